import Derived.Test.YtombhkpniddceaaGreatDoorM40
set_option maxHeartbeats 12800000
set_option maxRecDepth 100000
set_option synthInstance.maxSize 20000
set_option linter.all false
namespace Go.Proofs.YtombhkpniddceaaGreatDoor
open Go.RowKit
theorem zeL {v:Value} {q:Rat} {d N M K a b:Nat} {w:World} [h1:RatIs w v q] [d1:Sz q b] (ha:a <= 2 ^ 28) (hb:b <= 2 ^ 26) (hd:d <= 2 ^ 20) (hC:CosOk (Rat.divInt 1 2 - q) d N M K a) (hq:0 < cmpQ q (Rat.divInt 1 4)) (hq2:cmpQ (Rat.divInt 1 2 - q) (Rat.divInt 1 4) <= 0):
  Calls Tryz.prog 248 #[v,.int .i64 (d:Int)] w (IRet w (-(cosI (Rat.divInt 1 2 - q) d N M K))):=by
 obtain ⟨s,rfl,_,n1,k1,HE1⟩:=h1.form
 have HA:=zc ha; have HB:=zc hb; have HD:=zc hd
 obtain ⟨c,hc⟩:∃ c,cmpQ q (Rat.divInt 1 4)=c:=⟨_,rfl⟩
 have HC:=Bx.mk hc
 rw [hc] at hq
 have hcle:decide (0 < c)=true:=by simp; omega
 have HCO:Hid (CosOk (Rat.divInt 1 2 - q) d N M K a):=hC
 have HQ2:=Bx.mk hq2
 have s14:Sz (Rat.divInt 1 4) 3:=⟨by decide +kernel,by decide +kernel⟩
 have s12:Sz (Rat.divInt 1 2) 3:=⟨by decide +kernel,by decide +kernel⟩
 clear ha hb hd hC hc hq2
 go_enter Tryz.func248,Tryz.ntmps248
 go_wp2_with fail
 refine zf (zcq (by decide) (by decide) (by decide) (by decide)) ?_
 rintro e w1 ⟨q4,rfl,_,_⟩
 go_wp2_with fail
 refine zf (zcq (by decide) (by decide) (by decide) (by decide)) ?_
 rintro e w1 ⟨q2,rfl,_,_⟩
 go_wp2_with ((first
  | (go_at_call 97; refine zf (zbz (q:=q) (r:=Rat.divInt 1 4) (by have:=HB.out; omega)) ?_; rw [HC.out]; rintro e w1 ⟨rfl,_⟩)
  | (go_at_call 185; refine zf (zcV (q:=Rat.divInt 1 2) (r:=q) (by have:=HB.out; omega)) ?_; rintro e w1 ⟨q1,rfl,_,_⟩)
  | (go_at_call 248; refine zf (zcU (q:=Rat.divInt 1 2 - q) (N:=N) (M:=M) (K:=K) (a:=a) (by exact HA.out) (by have:=HB.out; omega) (by exact HD.out) (by exact HCO.out) (by exact HQ2.out)) ?_; rintro e w1 ⟨s1,rfl,_,_⟩)
  | (go_at_call 197; refine zf (zia) ?_; rintro e w1 ⟨s1,rfl,_,_⟩)))
 simp [bodyPost,results,Tryz.results248,go_sem]
 exact ⟨_,rfl,za,zaa⟩
@[go_sem] theorem build_three (w:World):(Instr.build 257 #[(0,.int .i64 32),(1,.int .i64 64),(2,.int .i64 128)]).run Tryz.prog w = .ok (.agg #[.int .i64 32,.int .i64 64,.int .i64 128]) w:=by kernel_rfl
@[go_sem] theorem index_three (w:World):(Instr.index 257 (.agg #[.int .i64 32,.int .i64 64,.int .i64 128]) (.int .i64 0)).run Tryz.prog w = .ok (.int .i64 32) w:=by kernel_rfl
theorem zd3 {v:Value} {q:Rat} {dec a b:Nat} {rc S:Int} {w:World} [h1:RatIs w v q] [d1:Sz q b] [d2:Wd rc a] (ha:a <= 2 ^ 28) (hb:b <= 2 ^ 28) (hd:dec <= 12)
  (hr:∀ {w:World} {v:Value} [RatIs w v q],Calls Tryz.prog 248 #[v,.int .i64 32] w (IRet w rc)) (hl:flr (rc - 3200) ((10:Int) ^ (32 - dec))=S) (hh:flr (rc+3200) ((10:Int) ^ (32 - dec))=S):
  Calls Tryz.prog 217 #[v,.int .i64 (dec:Int)] w (IRet w S):=by
 obtain ⟨s,rfl,_,n1,k1,HE1⟩:=h1.form
 have HR:Hid (∀ {w:World} {v:Value} [RatIs w v q],Calls Tryz.prog 248 #[v,.int .i64 32] w (IRet w rc)):=hr
 have hsub:IntKind.i64.wrap ((32:Int) - (dec:Int))=((32 - dec:Nat):Int):=by rw [zx]; omega
 obtain ⟨m,hm⟩:∃ m,32 - dec=m:=⟨_,rfl⟩
 rw [hm] at hl hh hsub
 have hm32:m <= 32:=by omega
 obtain ⟨U,hU⟩:∃ U,(10:Int) ^ m=U:=⟨_,rfl⟩
 have HP:=zc (show ∀ w,Calls Tryz.prog 171 #[.int .i64 10,.int .i64 (m:Int)] w (IRet w ((10:Int) ^ m)) from fun w=>zdN (by decide) (by decide) (by omega))
 have dU:Wd U 40:=by
  rw [<- hU]
  exact ⟨zo (zcD (b:=10) (by decide) (by decide) m).out (by omega)⟩
 have nzU:NZ U:=⟨by rw [<- hU]; have:(0:Int) < 10 ^ m:=Int.pow_pos (by decide); omega⟩
 rw [hU] at hl hh HP
 have HL:=zc hl; have HH:=zc hh
 have d32:Wd (3200:Int) 1:=zbC (by omega) (by omega)
 have dS:Wd S (a+1+1+1):=by rw [<- hl]; infer_instance
 have HC:=Bx.mk (show cmpI (flr (rc - 3200) U) (flr (rc+3200) U)=0 by rw [hl,hh]; exact zfX.2 rfl)
 have hM:a+a+a+a+a+a+999 <= MaxW:=by unfold MaxW; omega
 clear hr hl hh hU ha hb hm hd
 go_enter Tryz.func217,Tryz.ntmps217
 go_wp2_with fail
 go_step3
 go_wp2_with fail
 go_step3
 go_wp2_with fail
 go_loopw [7] (fun s7 wr=>s7 = .int .i64 1/\Blk wr w.heap.size 100 #[.bool s.n.b,.slice s.n.m.A s.n.m.k s.n.m.c,.slice s.d.A s.d.k s.d.c]/\Blk wr (w.heap.size+1) 98 #[.bool false,.slice none 0 0] /\
  Blk wr (w.heap.size+1+1) 257 #[.int .i64 32,.int .i64 64,.int .i64 128]/\Blk wr (w.heap.size+1+1+1) 98 #[.bool false,.slice none 0 0]/\Nxt w wr) (fun _ _=>0)
 case atStart=>exact ⟨rfl,za,za,za,za,zaa⟩
 case round=>
  obtain ⟨rfl,_,_,_,_,_⟩:=hrel
  go_wp2_with fail
  go_loopw [18] (fun s18 wr=>s18 = .int .i64 0/\Blk wr w.heap.size 100 #[.bool s.n.b,.slice s.n.m.A s.n.m.k s.n.m.c,.slice s.d.A s.d.k s.d.c]/\Blk wr (w.heap.size+1) 98 #[.bool false,.slice none 0 0]/\Blk wr (w.heap.size+1+1+1) 98 #[.bool false,.slice none 0 0]/\Nxt w wr) (fun _ _=>0)
  case atStart=>exact ⟨rfl,za,za,za,zaa⟩
  case round=>
   obtain ⟨rfl,_,_,_,_⟩:=hrel
   go_wp2_with ((first | (go_at_call 248; refine zf (HR.out (v:=s.v)) ?_; rintro e w4 ⟨s4,rfl,_,_⟩) | (go_at_call 141; refine zf (zaD (n:=3200) (by omega) (by omega)) ?_; rintro e w5 ⟨s5,rfl,_,_⟩) | (go_at_call 171; refine zf (HP.out _) ?_; rintro e w6 ⟨s6,rfl,_,_⟩)))
   (refine Code.nameW ?_; intro W hW; go_region_held3 (fun w'=>ButO W [w.heap.size+1+1+1] w') (exact zab) (((first | (go_at_call 239; refine zf (zcy (by omega)) ?_; rintro e w1 ⟨s1,rfl,_,_⟩) | (go_at_call 172; refine zf (zal (by omega)) ?_; rintro e w1 ⟨s1,rfl,_,_⟩)))))
   all_goals go_wp2_with fail
   all_goals (refine Code.nameW ?_; intro W hW; go_region_held3 (fun w'=>ButO W [] w') (exact zab) (((first | (go_at_call 199; refine zf (zbm (by omega)) ?_; rintro e w1 ⟨s1,rfl,_,_⟩) | (go_at_call 172; refine zf (zal (by omega)) ?_; rintro e w1 ⟨s1,rfl,_,_⟩) | (go_at_call 169; refine zf (za2 (by omega) HC.out) ?_; rintro e w1 ⟨rfl,_⟩)))))
   all_goals go_wp2_with fail
   all_goals (try rw [Exit.noGoto_ret])
   all_goals simp [bodyPost,results,Tryz.results217,go_sem]
   all_goals exact ⟨_,rfl,by rw [<- HL.out]; infer_instance,zaa⟩
section
open Go.Sort Go.Lib
def fracQ (q:Rat):Rat:=q - ((q.num / (q.den:Int):Int):Rat)
def foldQ (q:Rat):Rat:=if 0 < cmpQ (fracQ q) (Rat.divInt 1 2) then Rat.divInt 1 1 - fracQ q else fracQ q
def CosIs (t:Rat) (dec:Nat) (x:Rat × Rat):Prop:=
 (∃ r,zcs (wTxt t)=some r/\x=(r,r)) ∨
 (zcs (wTxt t)=none/\∃ S:Int,Wd S 1000/\x=stepI S dec/\∀ {w:World} {v:Value} [RatIs w v t],Calls Tryz.prog 217 #[v,.int .i64 (dec:Int)] w (IRet w S))
instance fracQ_sz {q:Rat} {a:Nat} [h:Sz q a]:Sz (fracQ q) (a+(a+1+1)+1):=by
 have hF:Wd (q.num / (q.den:Int)) (a+1):=by rw [<- zbN q.den_nz]; infer_instance
 unfold fracQ; infer_instance
theorem zni {q:Rat} {a:Nat} (h:Sz q a):Wd (q.num / (q.den:Int)) (a+1):=by rw [<- zbN q.den_nz]; infer_instance
section
variable {w:World} {v:Value} {q:Rat} {dec a:Nat} {x:Rat × Rat}
theorem zhj [h1:RatIs w v q] [d1:Sz q a] [hg:Glo w] (ha:a <= 2 ^ 17) (hd:dec <= 2 ^ 20) (hx:CosIs (foldQ q) dec x):
  Calls Tryz.prog 146 #[v,.int .i64 (dec:Int)] w (VRet w x):=by
 obtain ⟨s,rfl,_,n1,k1,HE1⟩:=h1.form
 have HA:=zc ha; have HD:=zc hd
 obtain ⟨f,hf⟩:∃ f,fracQ q=f:=⟨_,rfl⟩
 have df:Sz f (a+(a+1+1)+1):=by rw [<- hf]; infer_instance
 have dF:=zni d1
 have HF:=zc (show q - ((q.num / (q.den:Int):Int):Rat)=f from hf)
 obtain ⟨c,hc⟩:∃ c,cmpQ f (Rat.divInt 1 2)=c:=⟨_,rfl⟩
 have HC:=Bx.mk hc
 obtain ⟨t,ht⟩:∃ t,foldQ q=t:=⟨_,rfl⟩
 have HT1:=zc (show 0 < c -> Rat.divInt 1 1 - f=t from fun h=>by rw [<- ht]; unfold foldQ; rw [hf,hc,if_pos h])
 have HT2:=zc (show ¬ 0 < c -> f=t from fun h=>by rw [<- ht]; unfold foldQ; rw [hf,hc,if_neg h])
 have s11:Sz (Rat.divInt 1 1) 3:=⟨by decide +kernel,by decide +kernel⟩
 have s12:Sz (Rat.divInt 1 2) 3:=⟨by decide +kernel,by decide +kernel⟩
 have dt:Sz t (a+(a+1+1)+1+4):=by
  by_cases h:0 < c
  ·rw [<- HT1.out h]; exact (size_sub (h1:=s11) (h2:=df)).le' (by omega)
  ·rw [<- HT2.out h]; exact df.le' (by omega)
 rw [ht] at hx
 have HX:Hid (CosIs t dec x):=hx
 clear ha hd hf hc ht hx
 go_enter Tryz.func146,Tryz.ntmps146
 go_upto_region 1 with fail
 go_cut [] (fun wx=>∃ (sf:RV),Blk wx w.heap.size 100 #[.bool sf.n.b,.slice sf.n.m.A sf.n.m.k sf.n.m.c,.slice sf.d.A sf.d.k sf.d.c]/\RatIs wx sf.v f /\
  Blk wx (w.heap.size+1) 106 #[.bool false,.slice none 0 0,.slice none 0 0,.bool false,.slice none 0 0,.slice none 0 0]/\Nxt w wx)
 case first=>
  go_region_with ((first | (go_at_call 144; refine zf (zfn (by have:=HA.out; omega)) ?_; rintro e w1 ⟨s1,rfl,_,_⟩) | (go_at_call 143; refine zf (zbr) ?_; rintro e w1 ⟨q1,rfl,_,_⟩) | (go_at_call 185; refine zf (zcV (by have:=HA.out; omega)) ?_; rw [HF.out]; rintro e w1 ⟨q1,rfl,_,_⟩)))
  all_goals go_wp2_with fail
  all_goals go_meet
  all_goals exact ⟨_,za,za,za,zaa⟩
 case rest=>
  obtain ⟨sf,_,_,_,_⟩:=hcut
  by_cases h0:0 < c
  ·have HTX := zc (HT1.out h0)
   have h0':decide (0 < c)=true:=decide_eq_true h0
   go_wp2_with fail
   (refine Code.nameW ?_; intro W hW; go_region_held3 (fun w'=>ButO W [] w') (exact zab) (((first | (go_at_call 116; refine zf (zcq (by decide) (by decide) (by decide) (by decide)) ?_; rintro e w1 ⟨q1,rfl,_,_⟩) | (go_at_call 97; refine zf (zbz (q:=f) (r:=Rat.divInt 1 2) (by have:=HA.out; omega)) ?_; rw [HC.out]; rintro e w1 ⟨rfl,_⟩)))))
   all_goals go_upto_region 3 with fail
   all_goals go_cut [] (fun wx=>∃ (sf:RV),Blk wx w.heap.size 100 #[.bool sf.n.b,.slice sf.n.m.A sf.n.m.k sf.n.m.c,.slice sf.d.A sf.d.k sf.d.c]/\RatIs wx sf.v t /\
    Blk wx (w.heap.size+1) 106 #[.bool false,.slice none 0 0,.slice none 0 0,.bool false,.slice none 0 0,.slice none 0 0]/\Nxt w wx)
   case first=>
    go_region_with ((first | (go_at_call 116; refine zf (zcq (by decide) (by decide) (by decide) (by decide)) ?_; rintro e w1 ⟨q1,rfl,_,_⟩) | (go_at_call 185; refine zf (zcV (by have:=HA.out; omega)) ?_; rw [HTX.out]; rintro e w1 ⟨q1,rfl,_,_⟩)))
    all_goals go_wp2_with fail
    all_goals go_meet
    all_goals exact ⟨_,za,za,za,zaa⟩
   case rest=>
    obtain ⟨st,_,_,_,_⟩:=hcut
    go_wp2_with fail
    rcases HX.out with ⟨r,hr,rfl⟩ | ⟨hr,S,dS,rfl,hst⟩
    ·refine zf (zce (q := t) (by have := HA.out; omega)) ?_
     rw [hr]
     rintro e w2 ⟨sv,rfl,i2,_⟩
     have i2:RatIs w2 sv.v r:=i2
     have hr1:(some r).isSome=true:=rfl
     clear hr
     go_wp2_with (go_at_call 170; refine zf (zg2) ?_; rintro e w1 ⟨p1,p2,rfl,_,_,_⟩)
     simp [bodyPost,results,Tryz.results146,go_sem]
     exact ⟨_,_,(by repeat' (first | apply And.intro | rfl)),za,za,zaa⟩
    ·refine zf (zce (q := t) (by have := HA.out; omega)) ?_
     rw [hr]
     rintro e w2 ⟨sv,rfl,i2,_⟩
     have HST:Hid (∀ {w:World} {v:Value} [RatIs w v t],Calls Tryz.prog 217 #[v,.int .i64 (dec:Int)] w (IRet w S)):=hst
     have hr1:(none:Option Rat).isSome=false:=rfl
     clear hr hst i2
     go_wp2_with ((first | (go_at_call 217; refine zf (HST.out) ?_; rintro e w1 ⟨s1,rfl,_,_⟩) | (go_at_call 173; refine zf (zcf (n:=S) (by decide) (by exact HD.out)) ?_; rintro e w1 ⟨p1,p2,rfl,_,_,_⟩)))
     simp [bodyPost,results,Tryz.results146,go_sem]
     exact ⟨_,_,(by repeat' (first | apply And.intro | rfl)),za,za,zaa⟩
  ·have HTX := zc (HT2.out h0)
   have h0':decide (0 < c)=false:=decide_eq_false h0
   go_wp2_with fail
   (refine Code.nameW ?_; intro W hW; go_region_held3 (fun w'=>ButO W [] w') (exact zab) (((first | (go_at_call 116; refine zf (zcq (by decide) (by decide) (by decide) (by decide)) ?_; rintro e w1 ⟨q1,rfl,_,_⟩) | (go_at_call 97; refine zf (zbz (q:=f) (r:=Rat.divInt 1 2) (by have:=HA.out; omega)) ?_; rw [HC.out]; rintro e w1 ⟨rfl,_⟩)))))
   all_goals (have it:RatIs w1 sf.v t:=by (rw [<- HTX.out]; infer_instance))
   all_goals (have ib:Blk w1 w.heap.size 100 #[.bool sf.n.b,.slice sf.n.m.A sf.n.m.k sf.n.m.c,.slice sf.d.A sf.d.k sf.d.c]:=za)
   all_goals (have ic:Blk w1 (w.heap.size+1) 106 #[.bool false,.slice none 0 0,.slice none 0 0,.bool false,.slice none 0 0,.slice none 0 0]:=za)
   all_goals (have id1:Nxt w w1:=zaa)
   all_goals clear h0 h0'
   go_wp2_with fail
   rcases HX.out with ⟨r,hr,rfl⟩ | ⟨hr,S,dS,rfl,hst⟩
   ·refine zf (zce (q := t) (by have := HA.out; omega)) ?_
    rw [hr]
    rintro e w2 ⟨sv,rfl,i2,_⟩
    have i2:RatIs w2 sv.v r:=i2
    have hr1:(some r).isSome=true:=rfl
    clear hr
    go_wp2_with (go_at_call 170; refine zf (zg2) ?_; rintro e w1 ⟨p1,p2,rfl,_,_,_⟩)
    simp [bodyPost,results,Tryz.results146,go_sem]
    exact ⟨_,_,(by repeat' (first | apply And.intro | rfl)),za,za,zaa⟩
   ·refine zf (zce (q := t) (by have := HA.out; omega)) ?_
    rw [hr]
    rintro e w2 ⟨sv,rfl,i2,_⟩
    have HST:Hid (∀ {w:World} {v:Value} [RatIs w v t],Calls Tryz.prog 217 #[v,.int .i64 (dec:Int)] w (IRet w S)):=hst
    have hr1:(none:Option Rat).isSome=false:=rfl
    clear hr hst i2
    go_wp2_with ((first | (go_at_call 217; refine zf (HST.out) ?_; rintro e w1 ⟨s1,rfl,_,_⟩) | (go_at_call 173; refine zf (zcf (n:=S) (by decide) (by exact HD.out)) ?_; rintro e w1 ⟨p1,p2,rfl,_,_,_⟩)))
    simp [bodyPost,results,Tryz.results146,go_sem]
    exact ⟨_,_,(by repeat' (first | apply And.intro | rfl)),za,za,zaa⟩
end
end
end Go.Proofs.YtombhkpniddceaaGreatDoor
