import Derived.Test.YtombhkpniddceaaGreatDoorM30
set_option maxHeartbeats 3200000
set_option maxRecDepth 100000
set_option synthInstance.maxSize 1024
set_option linter.all false
namespace Go.Proofs.YtombhkpniddceaaGreatDoor
open Go.Lib Go.RowKit Go.Sort
instance size_sub {q r:Rat} {a b:Nat} [h1:Sz q a] [h2:Sz r b]:Sz (q - r) (a+b+1):=by
 rw [Rat.sub_eq_add_neg]; infer_instance
instance size_div {q r:Rat} {a b:Nat} [h1:Sz q a] [h2:Sz r b]:Sz (q / r) (a+b):=by
 by_cases hr:r.num=0
 ·have h0 : r = 0 := Rat.num_eq_zero.1 hr
  rw [h0,Rat.div_def,Rat.inv_zero,Rat.mul_zero]
  have:=h1.den
  exact ⟨by rw [show (0:Rat).num=0 from rfl]; simp [zbE],by
   rw [show (0:Rat).den=1 from rfl,za1]
   have h2:wl q.den ≠ 0:=fun h=>q.den_nz (zgz.1 h)
   omega⟩
 ·have hi:Sz r⁻¹ b:=by
   obtain ⟨e1,e2⟩:=zh6 hr
   exact ⟨by rw [e1,zaq]; exact h2.den,by rw [e2]; exact h2.num⟩
  rw [Rat.div_def]; infer_instance
theorem zif {g:Nat} {w:World} [h:Ge g w]:Ge g w:=h
theorem opAdd:OpIs 121 (fun q r=>q+r) where
 call h:=zfo (by omega)
 run args w:=by kernel_rfl
 size {q r k} h1 h2:=by have h:Sz (q+r) (k+k+1):=za; exact h
theorem opSub:OpIs 185 (fun q r=>q - r) where
 call h:=zcV (by omega)
 run args w:=by kernel_rfl
 size {q r k} h1 h2:=by have h:Sz (q - r) (k+k+1):=za; exact h
theorem opDiv:OpIs 186 (fun q r=>q / r) where
 call h:=zlm (by omega)
 run args w:=by kernel_rfl
 size {q r k} h1 h2:=by have h:Sz (q / r) (k+k):=za; exact ⟨Nat.le_succ_of_le h.num,Nat.le_succ_of_le h.den⟩
def addI (x y:Rat × Rat):Rat × Rat:=comb (fun q r=>q+r) x y
def subI (x y:Rat × Rat):Rat × Rat:=comb (fun q r=>q - r) x y
def mulI (x y:Rat × Rat):Rat × Rat:=comb (fun q r=>q * r) x y
def divI (x y:Rat × Rat):Rat × Rat:=comb (fun q r=>q / r) x y
section
variable {w:World} {x y:Rat × Rat} {q:Rat} {a b c k:Nat} {s t s2 t2 r:RV}
instance addI_sz1 [h1:Sz x.1 k] [h2:Sz x.2 k] [h3:Sz y.1 k] [h4:Sz y.2 k]:Sz (addI x y).1 (k+k+1):=(zc3 (fun _ _=>opAdd.size) h1 h2 h3 h4).1
instance addI_sz2 [h1:Sz x.1 k] [h2:Sz x.2 k] [h3:Sz y.1 k] [h4:Sz y.2 k]:Sz (addI x y).2 (k+k+1):=(zc3 (fun _ _=>opAdd.size) h1 h2 h3 h4).2
instance subI_sz1 [h1:Sz x.1 k] [h2:Sz x.2 k] [h3:Sz y.1 k] [h4:Sz y.2 k]:Sz (subI x y).1 (k+k+1):=(zc3 (fun _ _=>opSub.size) h1 h2 h3 h4).1
instance subI_sz2 [h1:Sz x.1 k] [h2:Sz x.2 k] [h3:Sz y.1 k] [h4:Sz y.2 k]:Sz (subI x y).2 (k+k+1):=(zc3 (fun _ _=>opSub.size) h1 h2 h3 h4).2
instance mulI_sz1 [h1:Sz x.1 k] [h2:Sz x.2 k] [h3:Sz y.1 k] [h4:Sz y.2 k]:Sz (mulI x y).1 (k+k+1):=(zc3 (fun _ _=>opMul.size) h1 h2 h3 h4).1
instance mulI_sz2 [h1:Sz x.1 k] [h2:Sz x.2 k] [h3:Sz y.1 k] [h4:Sz y.2 k]:Sz (mulI x y).2 (k+k+1):=(zc3 (fun _ _=>opMul.size) h1 h2 h3 h4).2
instance divI_sz1 [h1:Sz x.1 k] [h2:Sz x.2 k] [h3:Sz y.1 k] [h4:Sz y.2 k]:Sz (divI x y).1 (k+k+1):=(zc3 (fun _ _=>opDiv.size) h1 h2 h3 h4).1
instance divI_sz2 [h1:Sz x.1 k] [h2:Sz x.2 k] [h3:Sz y.1 k] [h4:Sz y.2 k]:Sz (divI x y).2 (k+k+1):=(zc3 (fun _ _=>opDiv.size) h1 h2 h3 h4).2
theorem zlp [h1:RatIs w s.v x.1] [h2:RatIs w t.v x.2] [h3:RatIs w s2.v y.1] [h4:RatIs w t2.v y.2] [d1:Sz x.1 k] [d2:Sz x.2 k] [d3:Sz y.1 k] [d4:Sz y.2 k] (hl:k <= 2 ^ 30):
  Calls Tryz.prog 91 #[ivv s t,ivv s2 t2] w (VRet w (addI x y)):=by
 go_enter Tryz.func91,Tryz.ntmps91
 go_wp2_with fail
 refine zf (zdl (x:=x) (y:=y) opAdd hl) ?_
 rintro e w1 ⟨p1,p2,rfl,h5,h6,_⟩
 change RatIs _ _ (addI x y).1 at h5
 change RatIs _ _ (addI x y).2 at h6
 go_wp2_with fail
 simp [bodyPost,results,Tryz.results91,go_sem]
 exact ⟨p1,p2,(by repeat' (first | apply And.intro | rfl)),za,za,zaa⟩
theorem zpQ [h1:RatIs w s.v x.1] [h2:RatIs w t.v x.2] [h3:RatIs w s2.v y.1] [h4:RatIs w t2.v y.2] [d1:Sz x.1 k] [d2:Sz x.2 k] [d3:Sz y.1 k] [d4:Sz y.2 k] (hl:k <= 2 ^ 30):
  Calls Tryz.prog 92 #[ivv s t,ivv s2 t2] w (VRet w (subI x y)):=by
 go_enter Tryz.func92,Tryz.ntmps92
 go_wp2_with fail
 refine zf (zdl (x:=x) (y:=y) opSub hl) ?_
 rintro e w1 ⟨p1,p2,rfl,h5,h6,_⟩
 change RatIs _ _ (subI x y).1 at h5
 change RatIs _ _ (subI x y).2 at h6
 go_wp2_with fail
 simp [bodyPost,results,Tryz.results92,go_sem]
 exact ⟨p1,p2,(by repeat' (first | apply And.intro | rfl)),za,za,zaa⟩
theorem zk0 [h1:RatIs w s.v x.1] [h2:RatIs w t.v x.2] [h3:RatIs w s2.v y.1] [h4:RatIs w t2.v y.2] [d1:Sz x.1 k] [d2:Sz x.2 k] [d3:Sz y.1 k] [d4:Sz y.2 k] (hl:k <= 2 ^ 30):
  Calls Tryz.prog 93 #[ivv s t,ivv s2 t2] w (VRet w (mulI x y)):=by
 go_enter Tryz.func93,Tryz.ntmps93
 go_wp2_with fail
 refine zf (zdl (x:=x) (y:=y) opMul hl) ?_
 rintro e w1 ⟨p1,p2,rfl,h5,h6,_⟩
 change RatIs _ _ (mulI x y).1 at h5
 change RatIs _ _ (mulI x y).2 at h6
 go_wp2_with fail
 simp [bodyPost,results,Tryz.results93,go_sem]
 exact ⟨p1,p2,(by repeat' (first | apply And.intro | rfl)),za,za,zaa⟩
theorem over_c [h1:RatIs w s.v x.1] [h2:RatIs w t.v x.2] [h3:RatIs w s2.v y.1] [h4:RatIs w t2.v y.2] [d1:Sz x.1 k] [d2:Sz x.2 k] [d3:Sz y.1 k] [d4:Sz y.2 k] (hl:k <= 2 ^ 30):
  Calls Tryz.prog 96 #[ivv s t,ivv s2 t2] w (VRet w (divI x y)):=by
 go_enter Tryz.func96,Tryz.ntmps96
 go_wp2_with fail
 refine zf (zdl (x:=x) (y:=y) opDiv hl) ?_
 rintro e w1 ⟨p1,p2,rfl,h5,h6,_⟩
 change RatIs _ _ (divI x y).1 at h5
 change RatIs _ _ (divI x y).2 at h6
 go_wp2_with fail
 simp [bodyPost,results,Tryz.results96,go_sem]
 exact ⟨p1,p2,(by repeat' (first | apply And.intro | rfl)),za,za,zaa⟩
theorem zdp [h1:RatIs w s.v x.1] [h2:RatIs w t.v x.2]:Calls Tryz.prog 95 #[ivv s t] w (PRet w (.bool (hasZ x))):=by
 have H1:=zc (show ∀ h:sgnI x.1.num <= 0,hasZ x=decide (0 <= sgnI x.2.num) from fun h=>by unfold hasZ; rw [show decide (sgnI x.1.num <= 0)=true from decide_eq_true h,Bool.true_and])
 have H2:=zc (show ¬ sgnI x.1.num <= 0 -> hasZ x=false from fun h=>by unfold hasZ; rw [show decide (sgnI x.1.num <= 0)=false from decide_eq_false h,Bool.false_and])
 go_enter Tryz.func95,Tryz.ntmps95
 go_wp2_with ((first | (go_at_call 71; refine zf zaT ?_; rintro e w1 ⟨rfl,_⟩)))
 ·go_ret
  exact ⟨by rw [H1.out (by omega)]; rfl,zaa⟩
 ·go_ret
  exact ⟨by rw [H2.out (by omega)]; rfl,zaa⟩
theorem zlz [h1:RatIs w s.v x.1] [h2:RatIs w t.v x.2]:Calls Tryz.prog 152 #[ivv s t] w (VRet w (-x.2,-x.1)):=by
 go_enter Tryz.func152,Tryz.ntmps152
 go_wp2_with fail
 (refine Code.nameW ?_; intro W hW; go_region_held3 (fun w'=>ButO W [w.heap.size+1] w') (exact zab) ((first | (go_at_call 115; refine zf (zfm) ?_; rintro e w1 ⟨q1,rfl,_,_⟩))))
 all_goals go_wp2_with fail
 all_goals simp [bodyPost,results,Tryz.results152,go_sem]
 all_goals exact ⟨_,_,rfl,za,za,zaa⟩
theorem zg2 [h1:RatIs w s.v q]:Calls Tryz.prog 170 #[s.v] w (VRet w (q,q)):=by
 go_enter Tryz.func170,Tryz.ntmps170
 go_wp2_with fail
 simp [bodyPost,results,Tryz.results170,go_sem]
 exact ⟨s,s,(by repeat' (first | apply And.intro | rfl)),za,za,zaa⟩
theorem zjE [h1:RatIs w s.v x.1] [h2:RatIs w t.v x.2] [d1:Sz x.1 a] [d2:Sz x.2 b] (hl:a+b <= 2 ^ 30):Calls Tryz.prog 88 #[ivv s t] w (VRet w (sqI x)):=by
 have HL:=zc hl
 have H1:=zc (show 0 < cmpQ (x.1 * x.1) (x.2 * x.2) -> sqI x=(if hasZ x=true then 0 else x.2 * x.2,x.1 * x.1) from fun h=>by simp only [sqI,if_pos h]; split <;> rfl)
 have H2:=zc (show cmpQ (x.1 * x.1) (x.2 * x.2) <= 0 -> sqI x=(if hasZ x=true then 0 else x.1 * x.1,x.2 * x.2) from fun h=>by simp only [sqI,if_neg (show ¬ 0 < cmpQ (x.1 * x.1) (x.2 * x.2) by omega)]; split <;> rfl)
 have K1:=zc (show 0 < cmpQ (x.1 * x.1) (x.2 * x.2) -> hasZ x=true -> sqI x=(0,x.1 * x.1) from fun h h2=>by rw [H1.out h,if_pos h2])
 have K2:=zc (show 0 < cmpQ (x.1 * x.1) (x.2 * x.2) -> hasZ x=false -> sqI x=(x.2 * x.2,x.1 * x.1) from fun h h2=>by rw [H1.out h,if_neg (by rw [h2]; decide)])
 have K3:=zc (show cmpQ (x.1 * x.1) (x.2 * x.2) <= 0 -> hasZ x=true -> sqI x=(0,x.2 * x.2) from fun h h2=>by rw [H2.out h,if_pos h2])
 have K4:=zc (show cmpQ (x.1 * x.1) (x.2 * x.2) <= 0 -> hasZ x=false -> sqI x=(x.1 * x.1,x.2 * x.2) from fun h h2=>by rw [H2.out h,if_neg (by rw [h2]; decide)])
 clear hl H1 H2
 go_enter Tryz.func88,Tryz.ntmps88
 go_upto_region 1 with fail
 go_cut [3,4] (fun t3 t4 wx=>∃ (g3 g4:Nat) (s3 s4:RV),t3 = .pointer (some ⟨g3,0,none⟩)/\t4 = .pointer (some ⟨g4,0,none⟩)/\Blk wx g3 100 #[.bool s3.n.b,.slice s3.n.m.A s3.n.m.k s3.n.m.c,.slice s3.d.A s3.d.k s3.d.c] /\
  Blk wx g4 100 #[.bool s4.n.b,.slice s4.n.m.A s4.n.m.k s4.n.m.c,.slice s4.d.A s4.d.k s4.d.c] /\
  Blk wx w.heap.size 106 #[.bool s.n.b,.slice s.n.m.A s.n.m.k s.n.m.c,.slice s.d.A s.d.k s.d.c,.bool t.n.b,.slice t.n.m.A t.n.m.k t.n.m.c,.slice t.d.A t.d.k t.d.c] /\
  Blk wx (w.heap.size+1) 106 #[.bool false,.slice none 0 0,.slice none 0 0,.bool false,.slice none 0 0,.slice none 0 0] /\
  RatIs wx s3.v (x.1 * x.1)/\RatIs wx s4.v (x.2 * x.2)/\Apart g3 g4/\Apart g4 g3/\Ge g3 w/\Ge g4 w/\Apart w.heap.size g3/\Apart w.heap.size g4/\Apart (w.heap.size+1) g3/\Apart (w.heap.size+1) g4/\Nxt w wx)
 case first=>
  (refine Code.nameW ?_; intro W hW; go_region_held3 (fun w'=>ButO W [] w') (exact zab) ((first | (go_at_call 122; refine zf (zcW (by have:=HL.out; omega)) ?_; rintro e w1 ⟨q1,rfl,_,_⟩))))
  all_goals go_wp2_with fail
  all_goals go_meet
  all_goals exact ⟨_,_,_,_,rfl,rfl,za,za,za,za,za,za,za,za,zif,zif,za,za,za,za,zaa⟩
 case rest=>
  obtain ⟨g3,g4,s3,s4,rfl,rfl,_,_,_,_,_,_,_,_,_,_,_,_,_,_,_⟩:=hcut
  go_wp2_with (first | (go_at_call 97; refine zf (zbz (by have:=HL.out; omega)) ?_; rintro e w1 ⟨rfl,_⟩) | (go_at_call 95; refine zf (zdp (x:=x)) ?_; rintro e w2 ⟨rfl,_⟩))
  all_goals first
   | (rw [K1.out (by assumption) (by assumption)]; simp [bodyPost,results,Tryz.results88,go_sem]; exact ⟨zr,_,rfl,zbf,za,zaa⟩)
   | (rw [K2.out (by assumption) (by assumption)]; simp [bodyPost,results,Tryz.results88,go_sem]; exact ⟨_,_,rfl,za,za,zaa⟩)
   | (rw [K3.out (by assumption) (by assumption)]; simp [bodyPost,results,Tryz.results88,go_sem]; exact ⟨zr,_,rfl,zbf,za,zaa⟩)
   | (rw [K4.out (by assumption) (by assumption)]; simp [bodyPost,results,Tryz.results88,go_sem]; exact ⟨_,_,rfl,za,za,zaa⟩)
end
theorem zcD {b:Int} (hb0:0 <= b) (hb:b <= 2 ^ 62) (i:Nat):Wd (b ^ i) (i+1):=⟨by
 apply zaf
 rw [Int.natAbs_pow]
 have h1:b.natAbs ^ i <= (2 ^ 62) ^ i:=Nat.pow_le_pow_left (by omega) i
 have h2:(2 ^ 62) ^ i <= B64 ^ i:=Nat.pow_le_pow_left (by unfold B64; omega) i
 have h3:B64 ^ i < B64 ^ (i+1):=Nat.pow_lt_pow_right (by unfold B64; omega) (Nat.lt_succ_self i)
 omega⟩
theorem zdN {b:Int} {k:Nat} {w:World} (hb0:0 <= b) (hb:b <= 2 ^ 62) (hk:k <= 2 ^ 30):
  Calls Tryz.prog 171 #[.int .i64 b,.int .i64 (k:Int)] w (IRet w (b ^ k)):=
 power_c (k:=k+1) (by omega) (by omega) (by omega) (by unfold MaxW; omega) (zc fun i hi=>zo (zcD hb0 hb i).out (by omega))
instance sz_divInt {x y:Int} {a b:Nat} [h1:Wd x a] [h2:Wd y b]:Sz (Rat.divInt x y) (a+b+1):=by
 by_cases hy:y=0
 ·rw [hy, Rat.divInt_zero]
  exact ⟨by rw [show (0:Rat).num=0 from rfl]; simp [zbE],by rw [show (0:Rat).den=1 from rfl,za1]; omega⟩
 ·obtain ⟨p1, p2⟩ := zc1 (x := x) hy
  constructor
  ·rw [p1, zaq]
   refine zo (zar (Nat.div_le_self _ _)) ?_
   have:=h1.out; omega
  ·rw [p2]
   refine zo (zar (Nat.div_le_self _ _)) ?_
   have:=h2.out; omega
def stepI (n:Int) (k:Nat):Rat × Rat:=(Rat.divInt n ((10:Int) ^ k),Rat.divInt (n+1) ((10:Int) ^ k))
instance wd_pow10i {k:Nat}:Wd ((10:Int) ^ k) (k+1):=zcD (by decide) (by decide) k
instance wd_pow100i {k:Nat}:Wd ((100:Int) ^ k) (k+1):=zcD (by decide) (by decide) k
instance wd_one:Wd (1:Int) 1:=⟨by show wl 1 <= 1; rw [za1]; exact zv 1⟩
section
variable {w:World} {v:Value} {n:Int} {a k:Nat}
theorem zcf [h1:IntIs w v n] [d1:Wd n a] (ha:a <= 2 ^ 30) (hk:k <= 2 ^ 20):Calls Tryz.prog 173 #[v,.int .i64 (k:Int)] w (VRet w (stepI n k)):=by
 obtain ⟨s,rfl,_,_⟩:=h1.form
 have HK:=zc hk; have HA:=zc ha
 have HS:=zc (show stepI n k=(Rat.divInt n ((10:Int) ^ k),Rat.divInt (n+1) ((10:Int) ^ k)) from rfl)
 have HM:a+a+99 <= MaxW:=by unfold MaxW; omega
 clear ha hk
 go_enter Tryz.func173,Tryz.ntmps173
 go_wp2_with fail
 refine zf (zdN (b:=10) (by decide) (by decide) (by have:=HK.out; omega)) ?_
 rintro e w1 ⟨s2,rfl,_,_⟩
 go_upto_region 2 with fail
 go_cut [6] (fun t6 wx=>∃ (g6:Nat) (s6:IV),t6 = .pointer (some ⟨g6,0,none⟩)/\Blk wx g6 98 #[.bool s6.b,s6.m.v] /\
  Blk wx w.heap.size 98 #[.bool s.b,s.m.v]/\Blk wx w1.heap.size 98 #[.bool s2.b,s2.m.v] /\
  Blk wx (w.heap.size+1) 106 #[.bool false,.slice none 0 0,.slice none 0 0,.bool false,.slice none 0 0,.slice none 0 0] /\
  IntIs wx s6.v (n+1)/\IntIs wx s2.v ((10:Int) ^ k)/\Ge g6 w/\Apart (w.heap.size+1) g6/\Nxt w wx)
 case first=>
  (refine Code.nameW ?_; intro W hW; go_region_held3 (fun w'=>ButO W [] w') (exact zab) ((first | (go_at_call 141; refine zf (zaD (n:=1) (by omega) (by omega)) ?_; rintro e w1 ⟨s1,rfl,_,_⟩) | (go_at_call 199; refine zf (zbm (by omega)) ?_; rintro e w1 ⟨s1,rfl,_,_⟩))))
  all_goals go_wp2_with fail
  all_goals go_meet
  all_goals exact ⟨_,_,rfl,za,za,za,za,za,za,zif,za,zaa⟩
 case rest=>
  obtain ⟨g6,s6,rfl,_,_,_,_,_,_,_,hap,_⟩:=hcut
  have hap2:Apart g6 (w.heap.size+1):=⟨fun e=>hap.out e.symm⟩
  have:NotIn g6 [w.heap.size+1]:=za
  go_wp2_with fail
  (refine Code.nameW ?_; intro W hW; go_region_held3 (fun w'=>ButO W [w.heap.size+1] w') (exact zab) ((first | (go_at_call 140; refine zf (zcg (by have:=HA.out; have:=HK.out; omega)) ?_; rintro e w1 ⟨q1,rfl,_,_⟩))))
  all_goals go_wp2_with fail
  all_goals simp [bodyPost,results,Tryz.results173,go_sem]
  all_goals exact ⟨_,_,rfl,by rw [HS.out]; infer_instance,by rw [HS.out]; infer_instance,zaa⟩
def rootI (x:Rat) (rn rd r k:Nat):Rat × Rat:=
 if (rn:Int) * rn=x.num/\(rd:Int) * rd=x.den then (Rat.divInt rn rd,Rat.divInt rn rd) else stepI r k
theorem ziS {a r s:Nat} (h1:zb5 a r) (h2:zb5 a s):r=s:=by
 rcases Nat.lt_trichotomy r s with h | h | h
 ·have := Nat.mul_le_mul (show r + 1 <= s from h) (show r + 1 <= s from h)
  have:=h1.2; have:=h2.1; omega
 ·exact h
 ·have := Nat.mul_le_mul (show s + 1 <= r from h) (show s + 1 <= r from h)
  have:=h2.2; have:=h1.1; omega
theorem zen {v1:Value} {x:Int} {a r:Nat} {w:World} [h1:IntIs w v1 x] [d1:Wd x a] (hx0:0 <= x) (hl:a <= 2 ^ 32) (hr:zb5 x.natAbs r):Calls Tryz.prog 166 #[v1] w (IRet w (r:Int)):=by
 refine zf (zkB hx0 hl) ?_
 rintro e w' ⟨s,hs,h⟩
 rw [ziS hr hs]; exact h
theorem zd7 {n r:Nat} {a:Nat} (h:zb5 n r) (hn:wl n <= a):Wd (r:Int) a:=⟨by
 refine zo (zar ?_) hn
 have:=h.1
 show r <= n
 rcases Nat.eq_zero_or_pos r with h0 | h0
 ·omega
 ·have:=Nat.mul_le_mul h0 (zv r); omega⟩
theorem zfX {x y:Int}:cmpI x y=0 ↔ x=y:=by
 unfold cmpI
 split
 ·constructor
  ·intro h; cases h
  ·intro h; omega
 ·split
  ·rename_i h; simp [h]
  ·rename_i h
   constructor
   ·intro h2; cases h2
   ·intro h2; exact absurd h2 h
end
end Go.Proofs.YtombhkpniddceaaGreatDoor
