import Derived.Test.YtombhkpniddceaaGreatDoorM24
set_option maxHeartbeats 25600000
set_option maxRecDepth 100000
set_option synthInstance.maxSize 20000
set_option linter.all false
namespace Go.Proofs.YtombhkpniddceaaGreatDoor
open Go.RowKit
instance (priority:=low) SetAt.any {vs:Array Value} {i:Nat} {x:Value}:SetAt vs i x (vs.setIfInBounds i x):=⟨rfl⟩
def zcQ (row prow:List Int) (P M B:Int) (m:Nat):List Int:=(List.range m).map fun j=>flr (row.getD j 0 * P - prow.getD j 0 * M) B
def zcR (zss:List (List Int)) (p col m:Nat) (B:Int):List (List Int):=(List.range zss.length).map fun i=>
 if i=p then zss.getD p [] else zcQ (zss.getD i []) (zss.getD p []) ((zss.getD p []).getD col 0) ((zss.getD i []).getD col 0) B m
theorem zmm {row prow:List Int} {P M B:Int} {m j:Nat} {x y:Int} (h:j < m) (hx:row[j]?=some x) (hy:prow[j]?=some y):(zcQ row prow P M B m)[j]?=some (flr (x * P - y * M) B):=by
 unfold zcQ
 rw [List.getElem?_map,List.getElem?_range h]
 show some (flr (row.getD j 0 * P - prow.getD j 0 * M) B)=_
 rw [List.getD_eq_getElem?_getD,List.getD_eq_getElem?_getD,hx,hy]; rfl
theorem zcM {row prow:List Int} {P M B:Int} {m:Nat}:(zcQ row prow P M B m).length=m:=by simp [zcQ]
theorem ziC {zss:List (List Int)} {p col m i:Nat} {B:Int} (h:i < zss.length):(zcR zss p col m B)[i]?=some (if i=p then zss.getD p [] else zcQ (zss.getD i []) (zss.getD p []) ((zss.getD p []).getD col 0) ((zss.getD i []).getD col 0) B m):=by
 unfold zcR
 rw [List.getElem?_map,List.getElem?_range h]; rfl
theorem za3 {α : Type} {l:List α} {i:Nat} {x d : α} (h:l[i]?=some x):l.getD i d=x:=by rw [List.getD_eq_getElem?_getD,h]; rfl
structure KInv (wx wr:World) (gr:Nat) (zss:List (List Int)) (p col m:Nat) (B:Int) (r i:Nat) (us us':List Value):Prop where
 len:us'.length=r
 blk:Blk wr gr 136 us'.toArray
 nw:∀ (j:Nat) (u:Value),us'[j]?=some u -> NW u
 keep:∀ j,i <= j -> us'[j]?=us[j]?
 keepP:us'[p]?=us[p]?
 old:∀ (j:Nat) (u:Value) (zs:List Int),us[j]?=some u -> zss[j]?=some zs -> ZAt wr u zs
 done:∀ (j:Nat) (u:Value) (zs:List Int),j < i -> us'[j]?=some u -> (zcR zss p col m B)[j]?=some zs -> ZAt wr u zs
 ints:∀ (v:Value) (z:Int),IntIs wx v z -> IntIs wr v z
 but:But wx [gr] wr
theorem KInv.nowd {wx wr:World} {gr:Nat} {zss:List (List Int)} {p col m i:Nat} {B:Int} {r:Nat} {us us':List Value} (h:KInv wx wr gr zss p col m B r i us us') (j:Nat):zaj us'.toArray j:=⟨fun x e=>by
 rw [List.getElem?_toArray] at e
 exact (h.nw j _ e).out x rfl⟩
theorem KInv.skip {wx wr:World} {gr:Nat} {zss:List (List Int)} {p col m:Nat} {B:Int} {r:Nat} {us us':List Value} (h:KInv wx wr gr zss p col m B r p us us') (hp:p < zss.length):KInv wx wr gr zss p col m B r (p+1) us us':=
 ⟨h.len, h.blk, h.nw, fun j hj => h.keep j (by omega), h.keepP, h.old, fun j u zs hj hu hzs => by
  by_cases e:j=p
  ·subst e
   rw [ziC hp,if_pos rfl] at hzs
   obtain rfl:=zl hzs
   obtain ⟨zs,hq⟩:∃ zs,zss[j]?=some zs:=⟨zss[j],zg hp⟩
   rw [za3 hq]
   exact h.old j u zs (by rw [<- h.keepP]; exact hu) hq
  ·exact h.done j u zs (by omega) hu hzs,h.ints,h.but⟩
theorem KInv.step {wx wr w9:World} {gr:Nat} {zss:List (List Int)} {p col m i:Nat} {B:Int} {r:Nat} {us us':List Value} {A:Option Addr} {k c:Nat} (h:KInv wx wr gr zss p col m B r i us us') (hi:i < r) (hip:i ≠ p) (hx:Nxt wr w9)
  (hz:∀ zs,(zcR zss p col m B)[i]?=some zs -> ZAt w9 (.slice A k c) zs):KInv wx (w9.setCell ⟨gr,i,none⟩ (.slice A k c)) gr zss p col m B r (i+1) us (us'.set i (.slice A k c)):=by
 have hb9:Blk w9 gr 136 us'.toArray:=Blk.nxt (h:=hx) (k:=h.blk)
 have hil:i < us'.length:=by rw [h.len]; exact hi
 refine ⟨by rw [List.length_set]; exact h.len,zaR hb9,fun j u hu=>?_,fun j hj=>?_,?_,fun j u zs hu hzs=>((h.old j u zs hu hzs).nxt hx).set_ hb9 (by decide) (h.nowd i),fun j u zs hj hu hzs=>?_,fun v z hv=>((h.ints v z hv).below hx.out).setOwn hb9 (h.nowd i),zct (zc5 h.but hx) (by simp)⟩
 ·rw [List.getElem?_set] at hu
  by_cases e:i=j
  ·rw [if_pos e, if_pos (by omega)] at hu
   obtain rfl:=zl hu
   infer_instance
  ·rw [if_neg e] at hu; exact h.nw j u hu
 ·rw [List.getElem?_set_ne (by omega)]; exact h.keep j (by omega)
 ·rw [List.getElem?_set_ne hip]; exact h.keepP
 ·rw [List.getElem?_set] at hu
  refine ZAt.set_ ?_ hb9 (by decide) (h.nowd i)
  by_cases e:i=j
  ·subst e
   rw [if_pos rfl,if_pos hil] at hu
   obtain rfl:=zl hu
   exact hz zs hzs
  ·rw [if_neg e] at hu
   exact (h.done j u zs (by omega) hu hzs).nxt hx
structure JInv (w1 wi:World) (hc m j:Nat) (Z:List Int) (l:List IV):Prop where
 len:l.length=m
 blk:Blk wi hc 98 (zaI l)
 done:∀ (k:Nat) (u:IV) (z:Int),k < j -> l[k]?=some u -> Z[k]?=some z -> IntIs wi u.v z
 nxt:Nxt w1 wi
theorem JInv.step {w1 wi w5:World} {hc m j:Nat} {Z:List Int} {l:List IV} {s:IV} {z:Int} (h:JInv w1 wi hc m j Z l) (hj:j < m) (hx:Nxt wi w5) (hn:w1.heap.size <= hc) (hs:IntIs w5 s.v z) (hz:Z[j]?=some z):
  JInv w1 ((w5.setCell ⟨hc,j * 2,none⟩ (.bool s.b)).setCell ⟨hc,j * 2+1,none⟩ (.slice s.m.A s.m.k s.m.c)) hc m (j+1) Z (l.set j s):=by
 have hb5:Blk w5 hc 98 (zaI l):=Blk.nxt (h:=hx) (k:=h.blk)
 have hjl:j < l.length:=by rw [h.len]; exact hj
 obtain ⟨m1,m2,_⟩:=zeO (s:=s) hb5 (zg hjl)
 obtain ⟨V1,_,_,_,_,b2⟩:=m1
 have hn5:Nxt w1 w5:=⟨h.nxt.out.trans (hx.out.mono h.nxt.out.size)⟩
 refine ⟨by rw [List.length_set]; exact h.len,b2,fun k u y hk hu hy=>m2 _ _ ?_,⟨(hn5.out.setCell hn _).setCell hn _⟩⟩
 rw [List.getElem?_set] at hu
 by_cases e:j=k
 ·subst e
  rw [if_pos rfl,if_pos hjl] at hu
  obtain rfl:=zl hu
  rw [hz] at hy
  obtain rfl:=zl hy
  exact hs
 ·rw [if_neg e] at hu
  exact (h.done k u y (by omega) hu hy).below hx.out
theorem zhm {w:World} {ge gr p col r m a k c:Nat} {A:Option Addr} {us:List Value} {zss:List (List Int)} {f:IV} {fac P:Int}
  (hE:Blk w ge 140 #[.slice (some ⟨gr,0,none⟩) r r,.slice A k c,.bool f.b,.slice f.m.A f.m.k f.m.c]) (hf:IntIs w f.v fac) (hf0:fac ≠ 0) (hfa:Wd fac a)
  (hR:Blk w gr 136 us.toArray) (hul:us.length=r) (hzl:zss.length=r) (hnw:∀ (j:Nat) (u:Value),us[j]?=some u -> NW u) (hz:∀ (i:Nat) (u:Value) (zs:List Int),us[i]?=some u -> zss[i]?=some zs -> ZAt w u zs)
  (hm:∀ zs ∈ zss,zs.length=m) (hcol:col < m) (hp:p < r) (hP:(zss.getD p []).getD col 0=P) (hsz:∀ zs ∈ zss,∀ z ∈ zs,Wd z a) (ha:a <= 2 ^ 28) (hr:r < 2 ^ 40) (hm40:m < 2 ^ 40):
  Calls Tryz.prog 195 #[.pointer (some ⟨ge,0,none⟩),.int .i64 (p:Int),.int .i64 (col:Int)] w (fun e w'=>e = .returned (.tuple #[])/\∃ (us':List Value) (s:IV),But w [ge,gr] w' /\
   Blk w' ge 140 #[.slice (some ⟨gr,0,none⟩) r r,.slice A k c,.bool s.b,.slice s.m.A s.m.k s.m.c]/\IntIs w' s.v P/\Blk w' gr 136 us'.toArray/\us'.length=r/\(∀ (j:Nat) (u:Value),us'[j]?=some u -> NW u) /\
   (∀ (i:Nat) (u:Value) (zs:List Int),us'[i]?=some u -> (zcR zss p col m fac)[i]?=some zs -> ZAt w' u zs)):=by
 have hmk:∀ w,(Instr.makeSlice 136 (.int .i64 (m:Int)) (.int .i64 (m:Int))).run Tryz.prog w = .ok (.slice (some ⟨w.heap.size,0,none⟩) m m) (w.alloc (.cells (zzero m) 98)):=zjN m hm40
 have nzf:NZ fac:=⟨hf0⟩
 obtain ⟨up,hup⟩:∃ u,us[p]?=some u:=⟨us[p]'(by omega),zg _⟩
 obtain ⟨zp,hzp⟩:∃ zs,zss[p]?=some zs:=⟨zss[p]'(by omega),zg _⟩
 have hzpm:=hm zp (zk hzp)
 obtain ⟨gp,lp,rfl,hbp,hlp,hpat⟩:=(hz p up zp hup hzp).at_
 rw [hzpm] at hup
 have hpc:zp[col]?=some P:=by
  rw [za3 hzp] at hP
  rw [<- hP,List.getD_eq_getElem?_getD,zg (by omega)]; rfl
 obtain ⟨sp,_,p0,p1,pI⟩:=hpat col P hpc
 have dP:Wd P a:=hsz zp (zk hzp) P (zk hpc)
 have hupA:us.toArray[p]?=some (.slice (some ⟨gp,0,none⟩) m m):=by rw [List.getElem?_toArray]; exact hup
 have hp':(p:Int) < (r:Int):=by omega
 have hcol':(col:Int) < (m:Int):=by omega
 have hne:ge ≠ gr:=fun e=>by
  subst e
  have:=hE.out.symm.trans hR.out
  injection this with this
  injection this with _ this
  exact absurd this (by decide)
 have HP:=zc hP; have HUL:=zc hul; have HZL:=zc hzl; have HNW:=zc hnw; have HZ:=zc hz; have HM:=zc hm; have HCOL:=zc hcol; have HPR:=zc hp; have HSZ:=zc hsz; have HA:=zc ha
 have HR:=zc hr; have HMM:=zc hm40; have HNE:=zc hne; have HUP:=zc hup; have HZP:=zc hzp; have HPAT:=zc hpat; have HRB:=zc hR; have HF0:=zc hf0; have HLP:=zc hlp; have HZPM:=zc hzpm
 clear hP hul hzl hnw hz hm hcol hp hsz ha hr hm40 hne hup hzp hpat hf0 hlp hzpm hpc
 go_enter Tryz.func195,Tryz.ntmps195
 go_upto_region 0 with fail
 go_cut [6,7] (fun t6 t7 wx=>∃ (g6 g7:Nat),t6 = .pointer (some ⟨g6,0,none⟩)/\t7 = .pointer (some ⟨g7,0,none⟩)/\Blk wx g6 98 #[.bool sp.b,.slice sp.m.A sp.m.k sp.m.c]/\Blk wx g7 98 #[.bool f.b,.slice f.m.A f.m.k f.m.c]/\NewIn g6 w/\NewIn g7 w/\Nxt w wx)
 case first=>
  (refine Code.nameW ?_; intro W hW; go_region_held3 (fun w'=>ButO W [] w') (exact zab) (fail))
  all_goals go_wp2_with fail
  all_goals go_meet
  all_goals exact ⟨_,_,rfl,rfl,za,za,zbh,zbh,zaa⟩
 case rest=>
  obtain ⟨g6,g7,rfl,rfl,hb6,hb7,hn6,hn7,hx0⟩:=hcut
  go_wp2_with fail
  go_loopg [33] r (fun gk s33 wr=>∃ (i:Nat) (us':List Value),i <= r/\gk=r - i/\s33 = .int .i64 (i:Int)/\KInv wc wr gr zss p col m fac r i us us')
  case atStart=>exact ⟨0,us,Nat.zero_le _,rfl,rfl,⟨HUL.out,Blk.nxt (h:=hx0) (k:=HRB.out),HNW.out,fun _ _=>rfl,rfl,fun j u zs h1 h2=>(HZ.out j u zs h1 h2).nxt hx0,fun _ _ _ h=>absurd h (by omega),fun _ _ h=>h,But.refl⟩⟩
  case round=>
   obtain ⟨i,us',hi,rfl,rfl,hK⟩:=hrel
   have hger:ge ∉ [gr]:=by simp; exact HNE.out
   have hgrw:=HRB.out.lt
   have hg6r:g6 ∉ [gr]:=by simp; have:=hn6.out; omega
   have hg7r:g7 ∉ [gr]:=by simp; have:=hn7.out; omega
   have hEr:=zaY (Blk.nxt (h:=hx0) (k:=hE)) hK.but hger
   have hb6r:=zaY hb6 hK.but hg6r
   have hb7r:=zaY hb7 hK.but hg7r
   have hfr:=hK.ints _ _ (hf.below hx0.out)
   have hPr:=hK.ints _ _ (pI.below hx0.out)
   have HK:=zc hK
   clear hK hger hgrw hg6r hg7r hE hb6 hb7
   by_cases hin:i < r
   ·have hlt : decide ((i : Int) < (r : Int)) = true := by simp; omega
    have hlt':(i:Int) < (r:Int):=by omega
    have hadd:IntKind.i64.wrap ((i:Int)+1)=((i+1:Nat):Int):=by have:=HR.out; rw [zx]; omega
    obtain ⟨ui,hui⟩:∃ u,us'[i]?=some u:=⟨us'[i]'(by rw [HK.out.len]; exact hin),zg _⟩
    have hui0:us[i]?=some ui:=by rw [<- HK.out.keep i (zv _)]; exact hui
    obtain ⟨zi,hzi⟩:∃ zs,zss[i]?=some zs:=⟨zss[i]'(by rw [HZL.out]; exact hin),zg _⟩
    have hzim:=HM.out zi (zk hzi)
    obtain ⟨gi,li,rfl,hbi,hli,hiat⟩:=(HK.out.old i ui zi hui0 hzi).at_
    rw [hzim] at hui hui0
    have huiA:us'.toArray[i]?=some (.slice (some ⟨gi,0,none⟩) m m):=by rw [List.getElem?_toArray]; exact hui
    have hRr:Blk wr gr 136 us'.toArray:=HK.out.blk
    have HIN:=zc hin
    by_cases hip:i=p
    ·subst hip
     have HS:=zc (HK.out.skip (by rw [HZL.out]; exact hin))
     clear hli hiat hin
     go_wp2_with fail
     go_roundg (r - (i+1))
     case measure=>have:=HIN.out; omega
     case rel=>exact ⟨i+1,us',HIN.out,rfl,rfl,HS.out⟩
    ·have hnp : ((i : Int) == (p : Int)) = false := by simp; omega
     have hnp':¬ (i:Int)=(p:Int):=by omega
     obtain ⟨M,hMc⟩:∃ M,zi[col]?=some M:=⟨zi[col]'(by rw [hzim]; exact HCOL.out),zg _⟩
     obtain ⟨um,_,m0,m1,mI⟩:=hiat col M hMc
     have dM:Wd M a:=HSZ.out zi (zk hzi) M (zk hMc)
     have hbpr:Blk wr gp 98 (zaI lp):=zaY (Blk.nxt (h:=hx0) (k:=hbp)) HK.out.but (by simp; exact (hbp.apart_type HRB.out (by decide)).out)
     have hupr:us'.toArray[p]?=some (.slice (some ⟨gp,0,none⟩) m m):=by rw [List.getElem?_toArray,HK.out.keepP]; exact HUP.out
     have HY:=zc (fun (j:Nat) (hj:j < m)=>show ∃ (y:Int) (v:IV),zp[j]?=some y/\(zaI lp)[j * 2]?=some (.bool v.b)/\(zaI lp)[j * 2+1]?=some (.slice v.m.A v.m.k v.m.c)/\IntIs wr v.v y/\Wd y a from by
      obtain ⟨y,hy⟩:∃ y,zp[j]?=some y:=⟨zp[j]'(by rw [HZPM.out]; exact hj),zg _⟩
      obtain ⟨v,_,a0,a1,aI⟩:=HPAT.out j y hy
      exact ⟨y,v,hy,a0,a1,HK.out.ints _ _ (aI.below hx0.out),HSZ.out zp (zk HZP.out) y (zk hy)⟩)
     have HX:=zc (fun (j:Nat) (hj:j < m)=>show ∃ (x:Int) (v:IV),zi[j]?=some x/\(zaI li)[j * 2]?=some (.bool v.b)/\(zaI li)[j * 2+1]?=some (.slice v.m.A v.m.k v.m.c)/\IntIs wr v.v x/\Wd x a from by
      obtain ⟨x,hx⟩:∃ x,zi[j]?=some x:=⟨zi[j]'(by rw [hzim]; exact hj),zg _⟩
      obtain ⟨v,_,a0,a1,aI⟩:=hiat j x hx
      exact ⟨x,v,hx,a0,a1,aI,HSZ.out zi (zk hzi) x (zk hx)⟩)
     have hZ:(zcR zss p col m fac)[i]?=some (zcQ zi zp P M fac m):=by
      rw [ziC (by rw [HZL.out]; exact hin),if_neg hip,za3 hzi,za3 HZP.out,za3 hMc]
      have h:=HP.out
      rw [za3 HZP.out] at h
      rw [h]
     have HZZ:=zc hZ; have HIP:=zc hip; have HHX:=zc hx0
     obtain ⟨wo,hwo⟩:∃ wo,wo=wr:=⟨_,rfl⟩
     subst hwo
     have hx1:Nxt wo (wo.alloc (.cells #[.bool um.b,.slice um.m.A um.m.k um.m.c] 98)):=zaa
     have hb10:Blk (wo.alloc (.cells #[.bool um.b,.slice um.m.A um.m.k um.m.c] 98)) wo.heap.size 98 #[.bool um.b,.slice um.m.A um.m.k um.m.c]:=Blk.new
     have hs1:(wo.alloc (.cells #[.bool um.b,.slice um.m.A um.m.k um.m.c] 98)).heap.size=wo.heap.size+1:=World.size_alloc _ _
     clear hip hzim hli hiat hzi hMc hin hi hui hui0 hZ hf hR hbp p0 p1 pI hupA hx0 hn6 hn7
     go_wp2_with fail
     generalize wo.alloc (.cells #[.bool um.b,.slice um.m.A um.m.k um.m.c] 98)=W1 at *
     obtain ⟨g10,hg10⟩:∃ g,wo.heap.size=g:=⟨_,rfl⟩
     obtain ⟨hc,hhc⟩:∃ g,W1.heap.size=g:=⟨_,rfl⟩
     rw [hg10] at hs1 hb10
     have hcn:hc=g10+1:=by rw [<- hhc]; exact hs1
     have hbc:Blk (W1.alloc (.cells (zzero m) 98)) hc 98 (zzero m):=by rw [<- hhc]; exact Blk.new
     have hxc:Nxt W1 (W1.alloc (.cells (zzero m) 98)):=zaa
     have hnc:NewIn hc W1:=⟨by rw [hhc]; exact zv _⟩
     generalize W1.alloc (.cells (zzero m) 98)=W2 at *
     (try rw [hg10])
     (try rw [hhc])
     (try rw [<- hcn])
     clear m0 m1 hs1 hcn hmk hg10
     have HHC:=zc hhc; have HXC:=zc hxc; have HBC:=zc hbc
     clear hhc hxc hbc
     go_loopg [51] m (fun gk s51 wi=>∃ (j:Nat) (l:List IV),j <= m/\gk=m - j/\s51 = .int .i64 (j:Int)/\JInv W1 wi hc m j (zcQ zi zp P M fac m) l)
     case atStart=>exact ⟨0,List.replicate m zv0,Nat.zero_le _,rfl,rfl,⟨by simp,HBC.out,fun _ _ _ h=>absurd h (by omega),HXC.out⟩⟩
     case round=>
      obtain ⟨j,l,hj,rfl,rfl,hJ⟩:=hrel
      have hxw:Nxt W1 wr:=hJ.nxt
      have hbl:Blk wr hc 98 (zaI l):=hJ.blk
      have HJ:=zc hJ
      clear hJ
      by_cases hjm:j < m
      ·have hlt2 : decide ((j : Int) < (m : Int)) = true := by simp; omega
       have hlt2':(j:Int) < (m:Int):=by omega
       have hadd2:IntKind.i64.wrap ((j:Int)+1)=((j+1:Nat):Int):=by have:=HMM.out; rw [zx]; omega
       obtain ⟨x,vx,hxj,x0,x1,xI,dx⟩:=HX.out j hjm
       obtain ⟨y,vy,hyj,y0,y1,yI,dy⟩:=HY.out j hjm
       obtain ⟨u,hu⟩:∃ u,l[j]?=some u:=⟨l[j]'(by rw [HJ.out.len]; exact hjm),zg _⟩
       obtain ⟨s0,s1⟩:=zci hu
       have t0:(zaI l)[j * 2]?=some (.bool u.b):=by rw [zaI,List.getElem?_toArray,s0]
       have t1:∀ v:Value,((zaI l).setIfInBounds (j * 2) v)[j * 2+1]?=some (.slice u.m.A u.m.k u.m.c):=fun v=>by
        rw [Array.getElem?_setIfInBounds_ne (by omega),zaI,List.getElem?_toArray,s1]
       have HZJ:=zc (zmm (P:=P) (M:=M) (B:=fac) hjm hxj hyj)
       have HJM:=zc hjm
       have hM:30 * a+99 <= 2 ^ 34:=by have:=HA.out; omega
       have HM2:=zc hM
       clear hxj hyj hu s0 s1 hj hM
       go_upto_region 11 with fail
       (refine Code.nameW ?_; intro W hW; go_region_held3 (fun w'=>ButO W [hc] w') (exact zab) ((go_at_call 238; refine zf (cutAt_c (v1:=vx) (v2:=vy) (x:=x) (y:=y) (P:=P) (M:=M) (B:=fac) (sp:=sp) (sm:=um) (sb:=f) (a:=a) HA.out) ?_; rintro e w5 ⟨s5,rfl,_,_⟩)))
       all_goals go_wp2_with fail
       all_goals go_roundg (m - (j+1))
       all_goals first
        | exact ⟨j+1,_,HJM.out,rfl,rfl,HJ.out.step HJM.out zaa hnc.out za HZJ.out⟩
        | (have:=HJM.out; omega)
      ·have hlt2 : decide ((j : Int) < (m : Int)) = false := by simp; omega
       have hlt2':¬ (j:Int) < (m:Int):=by omega
       obtain rfl:j=m:=by omega
       have hxr:Nxt wo wr:=zaa
       have hRr2:Blk wr gr 136 us'.toArray:=Blk.nxt (h:=hxr) (k:=HK.out.blk)
       have hEr2:Blk wr ge 140 #[.slice (some ⟨gr,0,none⟩) r r,.slice A k c,.bool f.b,.slice f.m.A f.m.k f.m.c]:=Blk.nxt (h:=hxr) (k:=hEr)
       have hfx:wr.frozen? ⟨gr,i,none⟩=false:=Blk.frozen (k:=hRr2)
       have hcx:wr.cell? ⟨gr,i,none⟩=some (.slice (some ⟨gi,0,none⟩) j j):=(Blk.cell (k:=hRr2) (i:=i)).trans huiA
       have hJ:=HJ.out
       have hzat:ZAt wr (.slice (some ⟨hc,0,none⟩) j j) (zcQ zi zp P M fac j):=⟨hc,l,by rw [zcM],hJ.blk,by rw [zcM]; exact hJ.len,fun kk u z hu hz=>hJ.done kk u z (by
        have h:=(zh.1 hu).1
        rw [hJ.len] at h; exact h) hu hz⟩
       have HS:=zc (HK.out.step (A:=some ⟨hc,0,none⟩) (k:=j) (c:=j) HIN.out HIP.out hxr (fun zs hzs=>by
        rw [HZZ.out] at hzs
        obtain rfl:=zl hzs
        exact hzat))
       have HE2:=zc hEr2
       clear hJ hzat hRr2 hxr hbi hb6r hb7r hfr hPr mI hbpr hb10 hbl hj hjm
       go_wp2_with fail
       go_roundg (r - (i+1))
       case measure=>have:=HIN.out; omega
       case rel=>exact ⟨i+1,_,HIN.out,rfl,rfl,HS.out⟩
   ·have hlt : decide ((i : Int) < (r : Int)) = false := by simp; omega
    have hlt':¬ (i:Int) < (r:Int):=by omega
    obtain rfl:i=r:=by omega
    have hK:=HK.out
    have hge0:=hEr.lt
    have hb1:But w [ge,gr] ((wr.setCell ⟨ge,2,none⟩ (.bool sp.b)).setCell ⟨ge,3,none⟩ (.slice sp.m.A sp.m.k sp.m.c)):=by
     have hb:But w [ge,gr] wr:=⟨hK.but.os.trans hx0.out.os,hK.but.tape.trans hx0.out.tape,hK.but.output.trans hx0.out.output,zo hx0.out.size hK.but.size,fun b hb hm=>(hK.but.block b (Nat.lt_of_lt_of_le hb hx0.out.size) (by simp at hm ⊢; exact hm.2)).trans (hx0.out.block b hb)⟩
     exact zct (zct hb (by simp)) (by simp)
    have e1:Blk (wr.setCell ⟨ge,2,none⟩ (.bool sp.b)) ge 140 #[.slice (some ⟨gr,0,none⟩) i i,.slice A k c,.bool sp.b,.slice f.m.A f.m.k f.m.c]:=za
    have e2:Blk ((wr.setCell ⟨ge,2,none⟩ (.bool sp.b)).setCell ⟨ge,3,none⟩ (.slice sp.m.A sp.m.k sp.m.c)) ge 140 #[.slice (some ⟨gr,0,none⟩) i i,.slice A k c,.bool sp.b,.slice sp.m.A sp.m.k sp.m.c]:=za
    have hi2:IntIs ((wr.setCell ⟨ge,2,none⟩ (.bool sp.b)).setCell ⟨ge,3,none⟩ (.slice sp.m.A sp.m.k sp.m.c)) sp.v P:=za
    have hap:Apart gr ge:=⟨fun e=>HNE.out e.symm⟩
    have hbr:Blk wr gr 136 us'.toArray:=hK.blk
    have hR2:Blk ((wr.setCell ⟨ge,2,none⟩ (.bool sp.b)).setCell ⟨ge,3,none⟩ (.slice sp.m.A sp.m.k sp.m.c)) gr 136 us'.toArray:=za
    have hz2:∀ (i:Nat) (u:Value) (zs:List Int),us'[i]?=some u -> (zcR zss p col m fac)[i]?=some zs -> ZAt ((wr.setCell ⟨ge,2,none⟩ (.bool sp.b)).setCell ⟨ge,3,none⟩ (.slice sp.m.A sp.m.k sp.m.c)) u zs:=fun k u zs hu hzs=>by
     have hk:k < i:=by
      have h:=(zh.1 hu).1
      rw [hK.len] at h; exact h
     exact ((hK.done k u zs hk hu hzs).set_ hEr (by decide) za).set_ e1 (by decide) za
    have HFIN:=zc (And.intro hb1 (And.intro e2 (And.intro hi2 (And.intro hR2 (And.intro hK.len (And.intro hK.nw hz2))))))
    clear hK hb1 e1 e2 hi2 hR2 hz2 hbr hap
    go_wp2_with fail
    go_end0
    first | exact ⟨rfl,us',sp,HFIN.out⟩ | exact ⟨rfl,HFIN.out.1,us',sp,HFIN.out.2⟩
end Go.Proofs.YtombhkpniddceaaGreatDoor
