import Derived.Test.YtamnflfakogigaaGreatDoorM31
set_option maxHeartbeats 3200000
set_option maxRecDepth 100000
set_option synthInstance.maxSize 1024
set_option linter.all false
namespace Go.Proofs.YtamnflfakogigaaGreatDoor
section
open Go.RowKit Go.Sort Go.Lib
instance size_sub {q r : Rat} {a b : Nat} [h1 : Sz q a] [h2 : Sz r b] : Sz (q - r) (a + b + 1) := by
 rw [Rat.sub_eq_add_neg]; infer_instance
instance size_div {q r : Rat} {a b : Nat} [h1 : Sz q a] [h2 : Sz r b] : Sz (q / r) (a + b) := by
 by_cases hr : r.num = 0
 ·have h0 : r = 0 := Rat.num_eq_zero.1 hr
  rw [h0, Rat.div_def, Rat.inv_zero, Rat.mul_zero]
  have := h1.den
  exact ⟨by rw [show (0 : Rat).num = 0 from rfl]; simp [zbE], by
   rw [show (0 : Rat).den = 1 from rfl, za1]
   have h2 : wl q.den ≠ 0 := fun h => q.den_nz (wl_eq_zero.1 h)
   omega⟩
 ·have hi : Sz r⁻¹ b := by
   obtain ⟨e1, e2⟩ := inv_parts hr
   exact ⟨by rw [e1, zaq]; exact h2.den, by rw [e2]; exact h2.num⟩
  rw [Rat.div_def]; infer_instance
theorem ge_of3 {g : Nat} {w : World} [h : Ge g w] : Ge g w := h
theorem opAdd : OpIs 63 (fun q r => q + r) where
 call h := zfo (by omega)
 run args w := by kernel_rfl
 size {q r k} h1 h2 := by have h : Sz (q + r) (k + k + 1) := inferInstance; exact h
theorem opSub : OpIs 64 (fun q r => q - r) where
 call h := zcV (by omega)
 run args w := by kernel_rfl
 size {q r k} h1 h2 := by have h : Sz (q - r) (k + k + 1) := inferInstance; exact h
theorem opDiv : OpIs 68 (fun q r => q / r) where
 call h := rat_Div_c (by omega)
 run args w := by kernel_rfl
 size {q r k} h1 h2 := by have h : Sz (q / r) (k + k) := inferInstance; exact ⟨Nat.le_succ_of_le h.num, Nat.le_succ_of_le h.den⟩
def addI (x y : Rat × Rat) : Rat × Rat := comb (fun q r => q + r) x y
def subI (x y : Rat × Rat) : Rat × Rat := comb (fun q r => q - r) x y
def mulI (x y : Rat × Rat) : Rat × Rat := comb (fun q r => q * r) x y
def divI (x y : Rat × Rat) : Rat × Rat := comb (fun q r => q / r) x y
section
variable {w : World} {x y : Rat × Rat} {q : Rat} {a b c k : Nat} {s t s2 t2 r : RV}
instance addI_sz1 [h1 : Sz x.1 k] [h2 : Sz x.2 k] [h3 : Sz y.1 k] [h4 : Sz y.2 k] : Sz (addI x y).1 (k + k + 1) := (zc3 (fun _ _ => opAdd.size) h1 h2 h3 h4).1
instance addI_sz2 [h1 : Sz x.1 k] [h2 : Sz x.2 k] [h3 : Sz y.1 k] [h4 : Sz y.2 k] : Sz (addI x y).2 (k + k + 1) := (zc3 (fun _ _ => opAdd.size) h1 h2 h3 h4).2
instance subI_sz1 [h1 : Sz x.1 k] [h2 : Sz x.2 k] [h3 : Sz y.1 k] [h4 : Sz y.2 k] : Sz (subI x y).1 (k + k + 1) := (zc3 (fun _ _ => opSub.size) h1 h2 h3 h4).1
instance subI_sz2 [h1 : Sz x.1 k] [h2 : Sz x.2 k] [h3 : Sz y.1 k] [h4 : Sz y.2 k] : Sz (subI x y).2 (k + k + 1) := (zc3 (fun _ _ => opSub.size) h1 h2 h3 h4).2
instance mulI_sz1 [h1 : Sz x.1 k] [h2 : Sz x.2 k] [h3 : Sz y.1 k] [h4 : Sz y.2 k] : Sz (mulI x y).1 (k + k + 1) := (zc3 (fun _ _ => opMul.size) h1 h2 h3 h4).1
instance mulI_sz2 [h1 : Sz x.1 k] [h2 : Sz x.2 k] [h3 : Sz y.1 k] [h4 : Sz y.2 k] : Sz (mulI x y).2 (k + k + 1) := (zc3 (fun _ _ => opMul.size) h1 h2 h3 h4).2
instance divI_sz1 [h1 : Sz x.1 k] [h2 : Sz x.2 k] [h3 : Sz y.1 k] [h4 : Sz y.2 k] : Sz (divI x y).1 (k + k + 1) := (zc3 (fun _ _ => opDiv.size) h1 h2 h3 h4).1
instance divI_sz2 [h1 : Sz x.1 k] [h2 : Sz x.2 k] [h3 : Sz y.1 k] [h4 : Sz y.2 k] : Sz (divI x y).2 (k + k + 1) := (zc3 (fun _ _ => opDiv.size) h1 h2 h3 h4).2
theorem plus_c [h1 : RatIs w s.v x.1] [h2 : RatIs w t.v x.2] [h3 : RatIs w s2.v y.1] [h4 : RatIs w t2.v y.2] [d1 : Sz x.1 k] [d2 : Sz x.2 k] [d3 : Sz y.1 k] [d4 : Sz y.2 k] (hl : k <= 2 ^ 30) :
  Calls Tryz.prog 110 #[ivv s t, ivv s2 t2] w (VRet w (addI x y)) := by
 go_enter Tryz.func110, Tryz.ntmps110
 go_wp2_with fail
 refine Calls.mono (zdl (x := x) (y := y) opAdd hl) ?_
 rintro e w1 ⟨p1, p2, rfl, h5, h6, _⟩
 change RatIs _ _ (addI x y).1 at h5
 change RatIs _ _ (addI x y).2 at h6
 go_wp2_with fail
 simp [bodyPost, results, Tryz.results110, go_sem]
 exact ⟨p1, p2, (by repeat' (first | apply And.intro | rfl)), inferInstance, inferInstance, zaa⟩
theorem minus_c [h1 : RatIs w s.v x.1] [h2 : RatIs w t.v x.2] [h3 : RatIs w s2.v y.1] [h4 : RatIs w t2.v y.2] [d1 : Sz x.1 k] [d2 : Sz x.2 k] [d3 : Sz y.1 k] [d4 : Sz y.2 k] (hl : k <= 2 ^ 30) :
  Calls Tryz.prog 172 #[ivv s t, ivv s2 t2] w (VRet w (subI x y)) := by
 go_enter Tryz.func172, Tryz.ntmps172
 go_wp2_with fail
 refine Calls.mono (zdl (x := x) (y := y) opSub hl) ?_
 rintro e w1 ⟨p1, p2, rfl, h5, h6, _⟩
 change RatIs _ _ (subI x y).1 at h5
 change RatIs _ _ (subI x y).2 at h6
 go_wp2_with fail
 simp [bodyPost, results, Tryz.results172, go_sem]
 exact ⟨p1, p2, (by repeat' (first | apply And.intro | rfl)), inferInstance, inferInstance, zaa⟩
theorem times_c [h1 : RatIs w s.v x.1] [h2 : RatIs w t.v x.2] [h3 : RatIs w s2.v y.1] [h4 : RatIs w t2.v y.2] [d1 : Sz x.1 k] [d2 : Sz x.2 k] [d3 : Sz y.1 k] [d4 : Sz y.2 k] (hl : k <= 2 ^ 30) :
  Calls Tryz.prog 92 #[ivv s t, ivv s2 t2] w (VRet w (mulI x y)) := by
 go_enter Tryz.func92, Tryz.ntmps92
 go_wp2_with fail
 refine Calls.mono (zdl (x := x) (y := y) opMul hl) ?_
 rintro e w1 ⟨p1, p2, rfl, h5, h6, _⟩
 change RatIs _ _ (mulI x y).1 at h5
 change RatIs _ _ (mulI x y).2 at h6
 go_wp2_with fail
 simp [bodyPost, results, Tryz.results92, go_sem]
 exact ⟨p1, p2, (by repeat' (first | apply And.intro | rfl)), inferInstance, inferInstance, zaa⟩
theorem over_c [h1 : RatIs w s.v x.1] [h2 : RatIs w t.v x.2] [h3 : RatIs w s2.v y.1] [h4 : RatIs w t2.v y.2] [d1 : Sz x.1 k] [d2 : Sz x.2 k] [d3 : Sz y.1 k] [d4 : Sz y.2 k] (hl : k <= 2 ^ 30) :
  Calls Tryz.prog 95 #[ivv s t, ivv s2 t2] w (VRet w (divI x y)) := by
 go_enter Tryz.func95, Tryz.ntmps95
 go_wp2_with fail
 refine Calls.mono (zdl (x := x) (y := y) opDiv hl) ?_
 rintro e w1 ⟨p1, p2, rfl, h5, h6, _⟩
 change RatIs _ _ (divI x y).1 at h5
 change RatIs _ _ (divI x y).2 at h6
 go_wp2_with fail
 simp [bodyPost, results, Tryz.results95, go_sem]
 exact ⟨p1, p2, (by repeat' (first | apply And.intro | rfl)), inferInstance, inferInstance, zaa⟩
theorem zdp [h1 : RatIs w s.v x.1] [h2 : RatIs w t.v x.2] : Calls Tryz.prog 94 #[ivv s t] w (PRet w (.bool (hasZ x))) := by
 have H1 := Hid.mk (show ∀ h : sgnI x.1.num <= 0, hasZ x = decide (0 <= sgnI x.2.num) from fun h => by unfold hasZ; rw [show decide (sgnI x.1.num <= 0) = true from decide_eq_true h, Bool.true_and])
 have H2 := Hid.mk (show ¬ sgnI x.1.num <= 0 -> hasZ x = false from fun h => by unfold hasZ; rw [show decide (sgnI x.1.num <= 0) = false from decide_eq_false h, Bool.false_and])
 go_enter Tryz.func94, Tryz.ntmps94
 go_wp2_with ((first | (go_at_call 67; refine Calls.mono zaT ?_; rintro e w1 ⟨rfl, _⟩)))
 ·go_ret
  exact ⟨by rw [H1.out (by omega)]; rfl, zaa⟩
 ·go_ret
  exact ⟨by rw [H2.out (by omega)]; rfl, zaa⟩
theorem negated_c [h1 : RatIs w s.v x.1] [h2 : RatIs w t.v x.2] : Calls Tryz.prog 109 #[ivv s t] w (VRet w (-x.2, -x.1)) := by
 go_enter Tryz.func109, Tryz.ntmps109
 go_wp2_with fail
 (refine Code.nameW ?_; intro W hW; go_region_held3 (fun w' => ButO W [w.heap.size + 1] w') (exact zab) ((first | (go_at_call 132; refine Calls.mono (zfm) ?_; rintro e w1 ⟨q1, rfl, _, _⟩))))
 all_goals go_wp2_with fail
 all_goals simp [bodyPost, results, Tryz.results109, go_sem]
 all_goals exact ⟨_, _, rfl, inferInstance, inferInstance, zaa⟩
theorem single_c [h1 : RatIs w s.v q] : Calls Tryz.prog 167 #[s.v] w (VRet w (q, q)) := by
 go_enter Tryz.func167, Tryz.ntmps167
 go_wp2_with fail
 simp [bodyPost, results, Tryz.results167, go_sem]
 exact ⟨s, s, (by repeat' (first | apply And.intro | rfl)), inferInstance, inferInstance, zaa⟩
theorem square_c [h1 : RatIs w s.v x.1] [h2 : RatIs w t.v x.2] [d1 : Sz x.1 a] [d2 : Sz x.2 b] (hl : a + b <= 2 ^ 30) : Calls Tryz.prog 98 #[ivv s t] w (VRet w (sqI x)) := by
 have HL := Hid.mk hl
 have H1 := Hid.mk (show 0 < cmpQ (x.1 * x.1) (x.2 * x.2) -> sqI x = (if hasZ x = true then 0 else x.2 * x.2, x.1 * x.1) from fun h => by simp only [sqI, if_pos h]; split <;> rfl)
 have H2 := Hid.mk (show cmpQ (x.1 * x.1) (x.2 * x.2) <= 0 -> sqI x = (if hasZ x = true then 0 else x.1 * x.1, x.2 * x.2) from fun h => by simp only [sqI, if_neg (show ¬ 0 < cmpQ (x.1 * x.1) (x.2 * x.2) by omega)]; split <;> rfl)
 have K1 := Hid.mk (show 0 < cmpQ (x.1 * x.1) (x.2 * x.2) -> hasZ x = true -> sqI x = (0, x.1 * x.1) from fun h h2 => by rw [H1.out h, if_pos h2])
 have K2 := Hid.mk (show 0 < cmpQ (x.1 * x.1) (x.2 * x.2) -> hasZ x = false -> sqI x = (x.2 * x.2, x.1 * x.1) from fun h h2 => by rw [H1.out h, if_neg (by rw [h2]; decide)])
 have K3 := Hid.mk (show cmpQ (x.1 * x.1) (x.2 * x.2) <= 0 -> hasZ x = true -> sqI x = (0, x.2 * x.2) from fun h h2 => by rw [H2.out h, if_pos h2])
 have K4 := Hid.mk (show cmpQ (x.1 * x.1) (x.2 * x.2) <= 0 -> hasZ x = false -> sqI x = (x.1 * x.1, x.2 * x.2) from fun h h2 => by rw [H2.out h, if_neg (by rw [h2]; decide)])
 clear hl H1 H2
 go_enter Tryz.func98, Tryz.ntmps98
 go_upto_region 1 with fail
 go_cut [3, 4] (fun t3 t4 wx => ∃ (g3 g4 : Nat) (s3 s4 : RV), t3 = .pointer (some ⟨g3, 0, none⟩) /\ t4 = .pointer (some ⟨g4, 0, none⟩) /\ Blk wx g3 95 #[.bool s3.n.b, .slice s3.n.m.A s3.n.m.k s3.n.m.c, .slice s3.d.A s3.d.k s3.d.c] /\
  Blk wx g4 95 #[.bool s4.n.b, .slice s4.n.m.A s4.n.m.k s4.n.m.c, .slice s4.d.A s4.d.k s4.d.c] /\
  Blk wx w.heap.size 122 #[.bool s.n.b, .slice s.n.m.A s.n.m.k s.n.m.c, .slice s.d.A s.d.k s.d.c, .bool t.n.b, .slice t.n.m.A t.n.m.k t.n.m.c, .slice t.d.A t.d.k t.d.c] /\
  Blk wx (w.heap.size + 1) 122 #[.bool false, .slice none 0 0, .slice none 0 0, .bool false, .slice none 0 0, .slice none 0 0] /\
  RatIs wx s3.v (x.1 * x.1) /\ RatIs wx s4.v (x.2 * x.2) /\ Apart g3 g4 /\ Apart g4 g3 /\ Ge g3 w /\ Ge g4 w /\ Apart w.heap.size g3 /\ Apart w.heap.size g4 /\ Apart (w.heap.size + 1) g3 /\ Apart (w.heap.size + 1) g4 /\ Nxt w wx)
 case first =>
  (refine Code.nameW ?_; intro W hW; go_region_held3 (fun w' => ButO W [] w') (exact zab) ((first | (go_at_call 65; refine Calls.mono (zcW (by have := HL.out; omega)) ?_; rintro e w1 ⟨q1, rfl, _, _⟩))))
  all_goals go_wp2_with fail
  all_goals go_meet
  all_goals exact ⟨_, _, _, _, rfl, rfl, inferInstance, inferInstance, inferInstance, inferInstance, inferInstance, inferInstance, inferInstance, inferInstance, ge_of3, ge_of3, inferInstance, inferInstance, inferInstance, inferInstance, zaa⟩
 case rest =>
  obtain ⟨g3, g4, s3, s4, rfl, rfl, _, _, _, _, _, _, _, _, _, _, _, _, _, _, _⟩ := hcut
  go_wp2_with (first | (go_at_call 70; refine Calls.mono (zbz (by have := HL.out; omega)) ?_; rintro e w1 ⟨rfl, _⟩) | (go_at_call 94; refine Calls.mono (zdp (x := x)) ?_; rintro e w2 ⟨rfl, _⟩))
  all_goals first
   | (rw [K1.out (by assumption) (by assumption)]; simp [bodyPost, results, Tryz.results98, go_sem]; exact ⟨zr, _, rfl, zbf, inferInstance, zaa⟩)
   | (rw [K2.out (by assumption) (by assumption)]; simp [bodyPost, results, Tryz.results98, go_sem]; exact ⟨_, _, rfl, inferInstance, inferInstance, zaa⟩)
   | (rw [K3.out (by assumption) (by assumption)]; simp [bodyPost, results, Tryz.results98, go_sem]; exact ⟨zr, _, rfl, zbf, inferInstance, zaa⟩)
   | (rw [K4.out (by assumption) (by assumption)]; simp [bodyPost, results, Tryz.results98, go_sem]; exact ⟨_, _, rfl, inferInstance, inferInstance, zaa⟩)
end
end
end Go.Proofs.YtamnflfakogigaaGreatDoor
