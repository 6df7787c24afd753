import Derived.Test.YtombhkpniddceaaGreatDoorM34
set_option maxHeartbeats 3200000
set_option maxRecDepth 100000
set_option linter.all false
namespace Go.Proofs.YtombhkpniddceaaGreatDoor
open Go.Lib Go.RowKit Go.Sort
def badS (e:Int):Value := .tuple #[spv [] [],.int .i64 e]
def rdI (l h:List UInt8):Rat × Rat:=(readQ l,readQ h)
def onS (op:Rat × Rat -> Rat × Rat -> Rat × Rat) (al ah bl bh:List UInt8):Value:=
 if spE2 al ah bl bh=0 then zbw (op (rdI al ah) (rdI bl bh)) else badS (spE2 al ah bl bh)
def zea (l h:List UInt8):Value:=if spE l h=0 then zbw (sqI (rdI l h)) else badS (spE l h)
def overV (al ah bl bh:List UInt8):Value:=
 if spE2 al ah bl bh=0 then (if hasZ (rdI bl bh)=true then badS 6 else zbw (divI (rdI al ah) (rdI bl bh))) else badS (spE2 al ah bl bh)
def ze0 (al ah bl bh:List UInt8):Value:=
 if spE2 al ah bl bh ≠ 0 then .tuple #[.int .i64 0,.int .i64 (spE2 al ah bl bh)]
 else if cmpQ (readQ ah) (readQ bl) < 0 then .tuple #[.int .i64 (-1),.int .i64 0]
 else if 0 < cmpQ (readQ al) (readQ bh) then .tuple #[.int .i64 1,.int .i64 0]
 else if al=bl/\ah=bh/\al=ah then .tuple #[.int .i64 0,.int .i64 0]
 else .tuple #[.int .i64 0,.int .i64 24]
instance rdI_sz1 {l h:List UInt8}:Sz (rdI l h).1 600:=za0 l
instance rdI_sz2 {l h:List UInt8}:Sz (rdI l h).2 600:=za0 h
def wLo (x:Rat × Rat):List UInt8:=if wE2 x=0 then wTxt x.1 else []
def wHi (x:Rat × Rat):List UInt8:=if wE2 x=0 then wTxt x.2 else []
theorem za8 {w:World} {x:Rat × Rat} {a b:Nat} {s t:RV} [h1:RatIs w s.v x.1] [h2:RatIs w t.v x.2] [d1:Sz x.1 a] [d2:Sz x.2 b] [hg:Glo w] (ha:a <= 2 ^ 20) (hb:b <= 2 ^ 20):
  Calls Tryz.prog 74 #[ivv s t] w (PRet w (.tuple #[spv (wLo x) (wHi x),.int .i64 (wE2 x)])):=zi7 ha hb
theorem zq_ok {w:World} {s:RV} {E:Int} {q:Rat} (h:RatIs w s.v (zq E q)) (hE:E=0):RatIs w s.v q:=by rw [zq,if_pos hE] at h; exact h
section
variable {w:World} {al ah bl bh:List UInt8}
structure OpIv (n:FuncId) (op:Rat × Rat -> Rat × Rat -> Rat × Rat):Prop where
 call:∀ {w:World} {x y:Rat × Rat} {k:Nat} {s t s2 t2:RV} [RatIs w s.v x.1] [RatIs w t.v x.2] [RatIs w s2.v y.1] [RatIs w t2.v y.2] [Sz x.1 k] [Sz x.2 k] [Sz y.1 k] [Sz y.2 k],k <= 2 ^ 30 -> Calls Tryz.prog n #[ivv s t,ivv s2 t2] w (VRet w (op x y))
 run:∀ (args:Array Value) (w:World),Sem.run Tryz.prog (callFunc n args) w = .ok (.enter n args) w
 size:∀ {x y:Rat × Rat} {k:Nat},Sz x.1 k -> Sz x.2 k -> Sz y.1 k -> Sz y.2 k -> Sz (op x y).1 (k+k+1)/\Sz (op x y).2 (k+k+1)
theorem zm1 (op:Rat × Rat -> Rat × Rat -> Rat × Rat) (al ah bl bh:List UInt8):∃ L H E,onS op al ah bl bh = .tuple #[spv L H,.int .i64 E]:=by
 unfold onS
 split
 ·exact ⟨_,_,_,rfl⟩
 ·exact ⟨_,_,_,rfl⟩
theorem zhF {x:Rat × Rat} {k:Nat} (h1:Sz (x.1 * x.1) k) (h2:Sz (x.2 * x.2) k):Sz (sqI x).1 k/\Sz (sqI x).2 k:=by
 have h0:Sz (0:Rat) k:=⟨by rw [show (0:Rat).num=0 from rfl]; simp [zbE],by
  rw [show (0:Rat).den=1 from rfl,za1]
  have h3:=h1.den
  have h4:wl (x.1 * x.1).den ≠ 0:=fun h=>(x.1 * x.1).den_nz (zgz.1 h)
  omega⟩
 unfold sqI
 split
 ·split
  ·exact ⟨h0,h1⟩
  ·exact ⟨h2,h1⟩
 ·split
  ·exact ⟨h0,h2⟩
  ·exact ⟨h1,h2⟩
theorem opTimes:OpIv 93 mulI where
 call h:=zk0 h
 run args w:=by kernel_rfl
 size h1 h2 h3 h4:=⟨za,za⟩
theorem zlu {n:FuncId} {op:Rat × Rat -> Rat × Rat -> Rat × Rat} (ho:OpIv n op) [hg:Glo w] (h1:al.length < 2 ^ 40) (h2:ah.length < 2 ^ 40) (h3:bl.length < 2 ^ 40) (h4:bh.length < 2 ^ 40):
  Calls Tryz.prog 90 #[spv al ah,spv bl bh,.func (.func n) #[] #[]] w (PRet w (onS op al ah bl bh)):=by
 have HA:=zc h1; have HB:=zc h2; have HC:=zc h3; have HD:=zc h4; have HO:=zc ho
 have hrun:=ho.run
 obtain ⟨E,hE⟩:∃ E,spE2 al ah bl bh=E:=⟨_,rfl⟩
 have HRD:=zc (show ∀ w,Calls _ _ _ w _ from fun w=>zbX (w:=w) h1 h2 h3 h4)
 rw [hE] at HRD
 have HV1:=zc (show E ≠ 0 -> onS op al ah bl bh=badS E from fun h=>by unfold onS; rw [hE,if_neg h])
 have HV2:=zc (show E=0 -> onS op al ah bl bh=zbw (op (rdI al ah) (rdI bl bh)) from fun h=>by unfold onS; rw [hE,if_pos h])
 have sz:=ho.size (x:=rdI al ah) (y:=rdI bl bh) (za0 al) (za0 ah) (za0 bl) (za0 bh)
 obtain ⟨sz1,sz2⟩:=sz
 clear h1 h2 h3 h4 hE ho
 go_enter Tryz.func90,Tryz.ntmps90
 go_wp2_with fail
 refine zf (HRD.out _) ?_
 rintro e w1 ⟨q1,q2,q3,q4,rfl,i1,i2,i3,i4,_⟩
 go_wp2_with fail
 ·have h0 : E ≠ 0 := ne_b (by assumption)
  simp [bodyPost,results,Tryz.results90,go_sem]
  exact ⟨by rw [HV1.out h0]; rfl,zaa⟩
 ·have h0 : E = 0 := eq_b (by assumption)
  have i1:RatIs w1 q1.v (rdI al ah).1:=zq_ok i1 h0
  have i2:RatIs w1 q2.v (rdI al ah).2:=zq_ok i2 h0
  have i3:RatIs w1 q3.v (rdI bl bh).1:=zq_ok i3 h0
  have i4:RatIs w1 q4.v (rdI bl bh).2:=zq_ok i4 h0
  refine zf (HO.out.call (x:=rdI al ah) (y:=rdI bl bh) (by decide)) ?_
  rintro e w2 ⟨p1,p2,rfl,_,_,_⟩
  go_wp2_with fail
  refine zf (za8 (x:=op (rdI al ah) (rdI bl bh)) (by decide) (by decide)) ?_
  rintro e w3 ⟨rfl,_⟩
  go_wp2_with fail
  simp [bodyPost,results,Tryz.results90,go_sem]
  exact ⟨by rw [HV2.out h0]; rfl,zaa⟩
theorem zqE [hg:Glo w] (h1:al.length < 2 ^ 40) (h2:ah.length < 2 ^ 40) (h3:bl.length < 2 ^ 40) (h4:bh.length < 2 ^ 40):
  Calls Tryz.prog 24 #[spv al ah,spv bl bh] w (PRet w (onS mulI al ah bl bh)):=by
 have HO:=zc (show ∀ (w:World) [Glo w],Calls _ _ _ w _ from fun w _=>zlu (w:=w) opTimes h1 h2 h3 h4)
 obtain ⟨L,H,E,hV⟩:=zm1 mulI al ah bl bh
 rw [hV] at HO ⊢
 clear h1 h2 h3 h4 hV
 go_enter Tryz.func24,Tryz.ntmps24
 go_wp2_with fail
 refine zf (HO.out _) ?_
 rintro e w1 ⟨rfl,_⟩
 go_wp2_with fail
 simp [bodyPost,results,Tryz.results24,go_sem]
 exact ⟨rfl,zaa⟩
theorem zqG [hg:Glo w] (h1:al.length < 2 ^ 40) (h2:ah.length < 2 ^ 40) (h3:bl.length < 2 ^ 40) (h4:bh.length < 2 ^ 40):
  Calls Tryz.prog 25 #[spv al ah,spv bl bh] w (PRet w (overV al ah bl bh)):=by
 obtain ⟨E,hE⟩:∃ E,spE2 al ah bl bh=E:=⟨_,rfl⟩
 have HRD:=zc (show ∀ w,Calls _ _ _ w _ from fun w=>zbX (w:=w) h1 h2 h3 h4)
 rw [hE] at HRD
 have HV1:=zc (show E ≠ 0 -> overV al ah bl bh=badS E from fun h=>by unfold overV; rw [hE,if_neg h])
 have HV2:=zc (show E=0 -> hasZ (rdI bl bh)=true -> overV al ah bl bh=badS 6 from fun h h2=>by unfold overV; rw [hE,if_pos h,if_pos h2])
 have HV3:=zc (show E=0 -> hasZ (rdI bl bh)=false -> overV al ah bl bh=zbw (divI (rdI al ah) (rdI bl bh)) from fun h h2=>by unfold overV; rw [hE,if_pos h,if_neg (by rw [h2]; decide)])
 clear h1 h2 h3 h4 hE
 go_enter Tryz.func25,Tryz.ntmps25
 go_wp2_with fail
 refine zf (HRD.out _) ?_
 rintro e w1 ⟨q1,q2,q3,q4,rfl,i1,i2,i3,i4,_⟩
 go_wp2_with fail
 ·have h0 : E ≠ 0 := ne_b (by assumption)
  simp [bodyPost,results,Tryz.results25,go_sem]
  exact ⟨by rw [HV1.out h0]; rfl,zaa⟩
 ·have h0 : E = 0 := eq_b (by assumption)
  have i1:RatIs w1 q1.v (rdI al ah).1:=zq_ok i1 h0
  have i2:RatIs w1 q2.v (rdI al ah).2:=zq_ok i2 h0
  have i3:RatIs w1 q3.v (rdI bl bh).1:=zq_ok i3 h0
  have i4:RatIs w1 q4.v (rdI bl bh).2:=zq_ok i4 h0
  refine zf (zdp (x:=rdI bl bh)) ?_
  rintro e w2 ⟨rfl,_⟩
  go_wp2_with (first | (go_at_call 96; refine zf (over_c (x:=rdI al ah) (y:=rdI bl bh) (by decide)) ?_; rintro e w2 ⟨p1,p2,rfl,_,_,_⟩) | (go_at_call 74; refine zf (za8 (x:=divI (rdI al ah) (rdI bl bh)) (by decide) (by decide)) ?_; rintro e w3 ⟨rfl,_⟩))
  ·simp [bodyPost, results, Tryz.results25, go_sem]
   exact ⟨by rw [HV2.out h0 (by assumption)]; rfl,zaa⟩
  ·simp [bodyPost, results, Tryz.results25, go_sem]
   exact ⟨by rw [HV3.out h0 (by assumption)]; rfl,zaa⟩
theorem znN {l h:List UInt8} [hg:Glo w] (h1:l.length < 2 ^ 40) (h2:h.length < 2 ^ 40):
  Calls Tryz.prog 18 #[spv l h] w (PRet w (zea l h)):=by
 obtain ⟨E,hE⟩:∃ E,spE l h=E:=⟨_,rfl⟩
 have HRD:=zc (show ∀ w,Calls _ _ _ w _ from fun w=>zeg (w:=w) h1 h2)
 rw [hE] at HRD
 have HV1:=zc (show E ≠ 0 -> zea l h=badS E from fun h=>by unfold zea; rw [hE,if_neg h])
 have HV2:=zc (show E=0 -> zea l h=zbw (sqI (rdI l h)) from fun h=>by unfold zea; rw [hE,if_pos h])
 clear h1 h2 hE
 go_enter Tryz.func18,Tryz.ntmps18
 go_wp2_with fail
 refine zf (HRD.out _) ?_
 rintro e w1 ⟨q1,q2,rfl,i1,i2,_⟩
 go_wp2_with fail
 ·have h0 : E ≠ 0 := ne_b (by assumption)
  simp [bodyPost,results,Tryz.results18,go_sem]
  exact ⟨by rw [HV1.out h0]; rfl,zaa⟩
 ·have h0 : E = 0 := eq_b (by assumption)
  have i1:RatIs w1 q1.v (rdI l h).1:=zq_ok i1 h0
  have i2:RatIs w1 q2.v (rdI l h).2:=zq_ok i2 h0
  refine zf (zjE (x:=rdI l h) (by decide)) ?_
  rintro e w2 ⟨p1,p2,rfl,_,_,_⟩
  have z:=zhF (x:=rdI l h) (k:=1200) za za
  obtain ⟨z1,z2⟩:=z
  go_wp2_with (go_at_call 74; refine zf (za8 (x:=sqI (rdI l h)) (by decide) (by decide)) ?_; rintro e w3 ⟨rfl,_⟩)
  simp [bodyPost,results,Tryz.results18,go_sem]
  exact ⟨by rw [HV2.out h0]; rfl,zaa⟩
end
def wV (q:Rat):Value := .tuple #[str (wTxt q),.int .i64 (wE q)]
def ofV (n d:Int):Value:=if d=0 then .tuple #[str [],.int .i64 6] else wV (Rat.divInt n d)
def zj3 (l:List UInt8):Value:=if readE l=0 then wV (((readQ l).num / ((readQ l).den:Int):Int):Rat) else .tuple #[str [],.int .i64 (readE l)]
instance sz_int {x:Int} {a:Nat} [h:Wd x a]:Sz (x:Rat) (a+1):=⟨by rw [Rat.num_intCast]; exact Nat.le_succ_of_le h.out,by rw [Rat.den_intCast,za1]; omega⟩
theorem of_b {d:Int} (h:(d == 0)=true):d=0:=by simpa using h
theorem of_nb {d:Int} (h:(d == 0)=false):d ≠ 0:=by simpa using h
section
variable {w:World} {al ah bl bh l:List UInt8}
theorem Of_c {n d:Int} [hg:Glo w] (h0 : -(2 ^ 63) <= n) (h1:n < 2 ^ 63) (h2 : -(2 ^ 63) <= d) (h3:d < 2 ^ 63):
  Calls Tryz.prog 56 #[.int .i64 n,.int .i64 d] w (PRet w (ofV n d)):=by
 have H0:=zc h0; have H1:=zc h1; have H2:=zc h2; have H3:=zc h3
 have d1:Wd n 1:=⟨zaf (by unfold B64; omega)⟩
 have d2:Wd d 1:=⟨zaf (by unfold B64; omega)⟩
 have HV1:=zc (show d=0 -> ofV n d = .tuple #[str [],.int .i64 6] from fun h=>if_pos h)
 have HV2:=zc (show d ≠ 0 -> ofV n d=wV (Rat.divInt n d) from fun h=>if_neg h)
 clear h0 h1 h2 h3
 go_enter Tryz.func56,Tryz.ntmps56
 go_wp2_with ((first
  | (go_at_call 141; refine zf (zaD (by first | exact H0.out | exact H2.out) (by first | exact H1.out | exact H3.out)) ?_; rintro e w1 ⟨s1,rfl,_,_⟩)
  | (go_at_call 140; refine zf (zcg (by omega)) ?_; rintro e w1 ⟨q1,rfl,_,_⟩)
  | (go_at_call 142; refine zf (zbj (by decide)) ?_; rintro e w1 ⟨rfl,_⟩)))
 ·have h0 : d = 0 := of_b (by assumption)
  go_ret2
  exact ⟨by rw [HV1.out h0]; rfl,zaa⟩
 ·have h0 : d ≠ 0 := of_nb (by assumption)
  go_ret2
  exact ⟨by rw [HV2.out h0]; rfl,zaa⟩
theorem Floor_c [hg:Glo w] (hl:l.length < 2 ^ 40):Calls Tryz.prog 57 #[str l] w (PRet w (zj3 l)):=by
 have HL:=zc hl
 have HV1:=zc (show readE l ≠ 0 -> zj3 l = .tuple #[str [],.int .i64 (readE l)] from fun h=>if_neg h)
 have HV2:=zc (show readE l=0 -> zj3 l=wV (((readQ l).num / ((readQ l).den:Int):Int):Rat) from fun h=>if_pos h)
 have HF:Wd ((readQ l).num / ((readQ l).den:Int)) (600+1):=by
  rw [<- zbN (readQ l).den_nz]; infer_instance
 clear hl
 go_enter Tryz.func57,Tryz.ntmps57
 go_wp2_with ((first
  | (go_at_call 70; refine zf (zdJ HL.out) ?_; rintro e w1 ⟨q1,rfl,_,_⟩)
  | (go_at_call 144; refine zf (zfn (by omega)) ?_; rintro e w1 ⟨s1,rfl,_,_⟩)
  | (go_at_call 143; refine zf (zbr) ?_; rintro e w1 ⟨q1,rfl,_,_⟩)
  | (go_at_call 142; refine zf (zbj (by decide)) ?_; rintro e w1 ⟨rfl,_⟩)))
 ·have h0 : readE l ≠ 0 := ne_b (by assumption)
  go_ret2
  exact ⟨by rw [HV1.out h0]; rfl,zaa⟩
 ·have h0 : readE l = 0 := eq_b (by assumption)
  go_ret2
  exact ⟨by rw [HV2.out h0]; rfl,zaa⟩
theorem ziH (h1:al.length < 2 ^ 40) (h2:ah.length < 2 ^ 40) (h3:bl.length < 2 ^ 40) (h4:bh.length < 2 ^ 40):
  Calls Tryz.prog 26 #[spv al ah,spv bl bh] w (PRet w (ze0 al ah bl bh)):=by
 obtain ⟨E,hE⟩:∃ E,spE2 al ah bl bh=E:=⟨_,rfl⟩
 have HRD:=zc (show ∀ w,Calls _ _ _ w _ from fun w=>zbX (w:=w) h1 h2 h3 h4)
 rw [hE] at HRD
 have HV:=zc (show ze0 al ah bl bh=if E ≠ 0 then .tuple #[.int .i64 0,.int .i64 E]
  else if cmpQ (readQ ah) (readQ bl) < 0 then .tuple #[.int .i64 (-1),.int .i64 0]
  else if 0 < cmpQ (readQ al) (readQ bh) then .tuple #[.int .i64 1,.int .i64 0]
  else if al=bl/\ah=bh/\al=ah then .tuple #[.int .i64 0,.int .i64 0]
  else .tuple #[.int .i64 0,.int .i64 24] by rw [<- hE]; rfl)
 clear h1 h2 h3 h4 hE
 go_enter Tryz.func26,Tryz.ntmps26
 go_wp2_with fail
 refine zf (HRD.out _) ?_
 rintro e w1 ⟨q1,q2,q3,q4,rfl,i1,i2,i3,i4,_⟩
 go_wp2_with fail
 ·have h0 : E ≠ 0 := ne_b (by assumption)
  go_ret2
  exact ⟨by rw [HV.out,if_pos h0]; rfl,zaa⟩
 ·have h0 : E = 0 := eq_b (by assumption)
  have i1:RatIs w1 q1.v (readQ al):=zq_ok i1 h0
  have i2:RatIs w1 q2.v (readQ ah):=zq_ok i2 h0
  have i3:RatIs w1 q3.v (readQ bl):=zq_ok i3 h0
  have i4:RatIs w1 q4.v (readQ bh):=zq_ok i4 h0
  subst h0
  refine zf (zbz (q:=readQ ah) (r:=readQ bl) (by decide)) ?_
  rintro e w2 ⟨rfl,_⟩
  have HV:=zc (HV.out.trans (if_neg (fun h=>h rfl)))
  go_wp2_with (go_at_call 97; refine zf (zbz (q:=readQ al) (r:=readQ bh) (by decide)) ?_; rintro e w2 ⟨rfl,_⟩)
  ·go_ret2
   exact ⟨by rw [HV.out,if_pos (by assumption)]; rfl,zaa⟩
  ·go_ret2
   exact ⟨by rw [HV.out,if_neg (by omega),if_pos (by assumption)]; rfl,zaa⟩
  all_goals
   go_ret2
   exact ⟨by
    rw [HV.out,if_neg (by omega),if_neg (by omega)]
    clear HV HRD
    first
    | (rw [if_pos (by simp_all)]; rfl)
    | (rw [if_neg (by simp_all)]; rfl),zaa⟩
end
theorem Sz.le' {q:Rat} {a b:Nat} (h:Sz q a) (hab:a <= b):Sz q b:=⟨zo h.num hab,zo h.den hab⟩
structure Bx (p:Prop):Prop where
 out:p
def zgG:Int:=999999999
def zkb (q:Rat):Int:=cmpI (q.den:Int) zgG
def decE (k:Int):Int:=if k < 1 ∨ 12 < k then 3 else 0
def turnE (l:List UInt8) (k:Int):Int:=if readE l ≠ 0 then readE l else if 0 < zkb (readQ l) then 4 else decE k
def rootE (l:List UInt8) (k:Int):Int:=if readE l ≠ 0 then readE l else if sgnI (readQ l).num < 0 then 3 else decE k
section
variable {w:World} {l:List UInt8} {k:Int}
theorem zc4:Calls Tryz.prog 72 #[.int .i64 k] w (PRet w (.int .i64 (decE k))):=by
 have H1:=zc (show k < 1 -> decE k=3 from fun h=>if_pos (Or.inl h))
 have H2:=zc (show 12 < k -> decE k=3 from fun h=>if_pos (Or.inr h))
 have H3:=zc (show 1 <= k -> k <= 12 -> decE k=0 from fun h h2=>if_neg (by omega))
 go_enter Tryz.func72,Tryz.ntmps72
 go_wp2_with fail
 all_goals go_ret
 all_goals first
  | exact ⟨by rw [H1.out (by omega)]; rfl,zaa⟩
  | exact ⟨by rw [H2.out (by omega)]; rfl,zaa⟩
  | exact ⟨by rw [H3.out (by omega) (by omega)]; rfl,zaa⟩
theorem zcq {x y:Int} (h0 : -(2 ^ 63) <= x) (h1:x < 2 ^ 63) (k0 : -(2 ^ 63) <= y) (k1:y < 2 ^ 63):
  Calls Tryz.prog 116 #[.int .i64 x,.int .i64 y] w (RRet w (Rat.divInt x y)):=by
 have H0:=zc h0; have H1:=zc h1; have K0:=zc k0; have K1:=zc k1
 have d1:Wd x 1:=⟨zaf (by unfold B64; omega)⟩
 have d2:Wd y 1:=⟨zaf (by unfold B64; omega)⟩
 clear h0 h1 k0 k1
 go_enter Tryz.func116,Tryz.ntmps116
 go_wp2_with fail
 refine zf (zaD H0.out H1.out) ?_
 rintro e w1 ⟨s1,rfl,_,_⟩
 go_wp2_with fail
 refine zf (zaD K0.out K1.out) ?_
 rintro e w1 ⟨s2,rfl,_,_⟩
 go_wp2_with fail
 refine zf (zcg (by omega)) ?_
 rintro e w1 ⟨q1,rfl,_,_⟩
 go_wp2_with fail
 simp [bodyPost,results,Tryz.results116,go_sem]
 exact ⟨q1,rfl,za,zaa⟩
instance wd_999:Wd zgG 1:=⟨zaf (by unfold B64 zgG; decide)⟩
theorem zef (hl:l.length < 2 ^ 40):Calls Tryz.prog 145 #[str l,.int .i64 k] w (fun e w'=>∃ s:RV,e = .returned (.tuple #[s.v,.int .i64 (turnE l k)])/\RatIs w' s.v (zq (turnE l k) (readQ l))/\Nxt w w'):=by
 obtain ⟨E,hE⟩:∃ E,turnE l k=E:=⟨_,rfl⟩
 have h1:readE l ≠ 0 -> E=readE l:=fun h=>by rw [<- hE]; exact if_pos h
 have h2:readE l=0 -> 0 < zkb (readQ l) -> E=4:=fun h h2=>by rw [<- hE]; unfold turnE; rw [if_neg (fun h3=>h3 h),if_pos h2]
 have h3:readE l=0 -> zkb (readQ l) <= 0 -> E=decE k:=fun h h2=>by rw [<- hE]; unfold turnE; rw [if_neg (fun h3=>h3 h),if_neg (by omega)]
 have hr:=fun w=>zdJ (w:=w) hl
 have sq:Sz (readQ l) 600:=za
 rw [hE]
 generalize readQ l=q at *
 generalize readE l=E0 at *
 obtain ⟨c,hc⟩:∃ c,zkb q=c:=⟨_,rfl⟩
 rw [hc] at h2 h3
 have HCC:=Bx.mk hc; have H1:=zc h1; have H2:=zc h2; have H3:=zc h3; have HR:=zc hr
 clear hl hE hc h1 h2 h3 hr
 go_enter Tryz.func145,Tryz.ntmps145
 go_wp2_with fail
 refine zf (HR.out _) ?_
 rintro e w1 ⟨q1,rfl,_,_⟩
 go_wp2_with fail
 ·have h0 : E0 ≠ 0 := ne_b (by assumption)
  have hE:=H1.out h0
  simp [bodyPost,results,Tryz.results145,go_sem]
  exact ⟨zr,by rw [hE]; repeat' (first | apply And.intro | rfl),zch (by rw [hE]; exact h0),zaa⟩
 have h0:E0=0:=eq_b (by assumption)
 refine zf (zak (q:=q)) ?_
 rintro e w2 ⟨s1,rfl,_,_⟩
 go_wp2_with fail
 refine zf (zaD (n:=zgG) (by unfold zgG; omega) (by unfold zgG; omega)) ?_
 rintro e w3 ⟨s2,rfl,_,_⟩
 go_wp2_with fail
 refine zf (za2 (by decide) HCC.out) ?_
 rintro e w4 ⟨rfl,_⟩
 go_wp2_with (go_at_call 72; refine zf zc4 ?_; rintro e w1 ⟨rfl,_⟩)
 ·have h0 : E0 = 0 := eq_b (by assumption)
  have hE:=H2.out h0 (by assumption)
  simp [bodyPost,results,Tryz.results145,go_sem]
  exact ⟨zr,by rw [hE]; repeat' (first | apply And.intro | rfl),zch (by rw [hE]; decide),zaa⟩
 ·have h0 : E0 = 0 := eq_b (by assumption)
  have h1:decE k ≠ 0:=ne_b (by assumption)
  have hE:=H3.out h0 (by assumption)
  simp [bodyPost,results,Tryz.results145,go_sem]
  exact ⟨zr,by rw [hE]; repeat' (first | apply And.intro | rfl),zch (by rw [hE]; exact h1),zaa⟩
 ·have h0 : E0 = 0 := eq_b (by assumption)
  have h1:decE k=0:=eq_b (by assumption)
  have hE:=H3.out h0 (by assumption)
  simp [bodyPost,results,Tryz.results145,go_sem]
  exact ⟨q1,by rw [hE,h1]; repeat' (first | apply And.intro | rfl),zkT za (by rw [hE]; exact h1),zaa⟩
theorem zmW {x:Rat} {rn rd r k:Nat} (hn:zb5 x.num.natAbs rn) (hd:zb5 x.den rd) (hr:zb5 (x.num.natAbs * 100 ^ k / x.den) r) (hk:k <= 12) (h:Sz x 600):Sz (rootI x rn rd r k).1 3000/\Sz (rootI x rn rd r k).2 3000:=by
 have w1:Wd (rn:Int) 600:=zd7 hn h.num
 have w2:Wd (rd:Int) 600:=zd7 hd h.den
 have w3:Wd (r:Int) 700:=zd7 hr (zo (zar (Nat.div_le_self _ _)) (zo (zgy _ _) (by
  have h1:=h.num
  have h2:=(zcD (b:=100) (by decide) (by decide) k).out
  rw [Int.natAbs_pow] at h2
  have h3:wl (100 ^ k) <= k+1:=h2
  omega)))
 have w4:Wd ((10:Int) ^ k) 20:=⟨zo (zcD (b:=10) (by decide) (by decide) k).out (by omega)⟩
 have s1:Sz (Rat.divInt (rn:Int) (rd:Int)) 3000:=(za:Sz (Rat.divInt (rn:Int) (rd:Int)) (600+600+1)).le' (by decide)
 have s2:Sz (Rat.divInt (r:Int) ((10:Int) ^ k)) 3000:=(sz_divInt (h1:=w3) (h2:=w4)).le' (by decide)
 have w5:Wd ((r:Int)+1) (700+1+1):=⟨by
  refine zo (zar (Int.natAbs_add_le _ _)) (zo (zhx _ _) ?_)
  have:=w3.out; have h1:wl (1:Int).natAbs=1:=za1
  omega⟩
 have s3:Sz (Rat.divInt ((r:Int)+1) ((10:Int) ^ k)) 3000:=(sz_divInt (h1:=w5) (h2:=w4)).le' (by decide)
 unfold rootI
 split
 ·exact ⟨s1,s1⟩
 ·exact ⟨s2,s3⟩
theorem zql {x:Rat} {rn rd r n:Nat} [hg:Glo w] (hl:l.length < 2 ^ 40) (hx:readQ l=x) (he:rootE l (n:Int)=0) (hn:zb5 x.num.natAbs rn) (hd:zb5 x.den rd) (hr:zb5 (x.num.natAbs * 100 ^ n / x.den) r):
  Calls Tryz.prog 10 #[str l,.int .i64 (n:Int)] w (PRet w (zbw (rootI x rn rd r n))):=by
 have h1:readE l=0:=by
  by_cases h:readE l=0
  ·exact h
  ·unfold rootE at he; rw [if_pos h] at he; exact he
 have h2:¬ sgnI x.num < 0:=by
  intro h; unfold rootE at he; rw [if_neg (fun h3=>h3 h1),hx,if_pos h] at he; cases he
 have h3:decE (n:Int)=0:=by
  unfold rootE at he; rw [if_neg (fun h3=>h3 h1),hx,if_neg h2] at he; exact he
 have h4:n <= 12:=by
  unfold decE at h3
  split at h3
  ·cases h3
  ·omega
 have h5:0 <= x.num:=by
  rcases Int.lt_or_le x.num 0 with h | h
  ·exact absurd (by unfold sgnI; rw [if_pos h]; decide) h2
  ·exact h
 have sx:Sz x 600:=by rw [<- hx]; infer_instance
 have HR:=zc (show ∀ w,Calls _ _ _ w _ from fun w=>zdJ (w:=w) hl)
 rw [hx,h1] at HR
 have HC:=zc (show ∀ w,Calls _ _ _ w _ from fun w=>zc4 (w:=w) (k:=(n:Int)))
 rw [h3] at HC
 have hsg:decide (sgnI x.num < 0)=false:=by simpa using h2
 have HN:=zc hn; have HD:=zc hd; have HRT:=zc hr; have H4:=zc h4; have H5:=zc h5
 clear hl hx he hn hd hr h1 h2 h3 h4 h5
 go_enter Tryz.func10,Tryz.ntmps10
 go_wp2_with fail
 refine zf (HR.out _) ?_
 rintro e w1 ⟨q1,rfl,_,_⟩
 go_wp2_with ((first
  | (go_at_call 71; refine zf (zaT (q:=x)) ?_; rintro e w1 ⟨rfl,_⟩)
  | (go_at_call 72; refine zf (HC.out _) ?_; rintro e w1 ⟨rfl,_⟩)
  | (go_at_call 73; refine zf (root_c (x:=x) (rn:=rn) (rd:=rd) (r:=r) (by decide) (by have:=H4.out; omega) H5.out HN.out HD.out HRT.out) ?_; rintro e w1 ⟨p1,p2,rfl,_,_,_⟩; obtain ⟨z1,z2⟩:=zmW (k:=n) (HN.out) (HD.out) (HRT.out) H4.out (by assumption:Sz x 600))
  | (go_at_call 74; refine zf (za8 (x:=rootI x rn rd r n) (by decide) (by decide)) ?_; rintro e w3 ⟨rfl,_⟩)))
 simp [bodyPost,results,Tryz.results10,go_sem]
 exact ⟨rfl,zaa⟩
end
end Go.Proofs.YtombhkpniddceaaGreatDoor
