import Derived.Test.YtamnflfakogigaaGreatDoorM45
set_option maxHeartbeats 6400000
set_option maxRecDepth 100000
set_option synthInstance.maxSize 20000
set_option linter.all false
namespace Go.Proofs.YtamnflfakogigaaGreatDoor
section
open Go.RowKit Go.Sort Go.Lib
def bxE8 (a b c d e f g h : List UInt8) : Int := or2 (spE2 a b c d) (spE2 e f g h)
def onB (re im : Rat × Rat -> Rat × Rat -> Rat × Rat -> Rat × Rat -> Rat × Rat) (a b c d e f g h : List UInt8) : Value :=
 if bxE8 a b c d e f g h = 0 then ze3 (re (rdI a b) (rdI c d) (rdI e f) (rdI g h)) (im (rdI a b) (rdI c d) (rdI e f) (rdI g h)) else badB (bxE8 a b c d e f g h)
def conjV (a b c d : List UInt8) : Value := if spE2 a b c d = 0 then ze3 (rdI a b) (-(readQ d), -(readQ c)) else badB (spE2 a b c d)
def normV (a b c d : List UInt8) : Value := if spE2 a b c d = 0 then zbw (addI (sqI (rdI a b)) (sqI (rdI c d))) else badS (spE2 a b c d)
theorem onB_form (re im) (a b c d e f g h : List UInt8) : ∃ A B C D E, onB re im a b c d e f g h = .tuple #[bxv A B C D, .int .i64 E] := by
 unfold onB
 split
 ·exact ⟨_, _, _, _, _, rfl⟩
 ·exact ⟨_, _, _, _, _, rfl⟩
structure OpRg (n : FuncId) (re im : Rat × Rat -> Rat × Rat -> Rat × Rat -> Rat × Rat -> Rat × Rat) : Prop where
 call : ∀ {w : World} {x y u v : Rat × Rat} {k : Nat} {s t s2 t2 s3 t3 s4 t4 : RV} [RatIs w s.v x.1] [RatIs w t.v x.2] [RatIs w s2.v y.1] [RatIs w t2.v y.2] [RatIs w s3.v u.1] [RatIs w t3.v u.2] [RatIs w s4.v v.1] [RatIs w t4.v v.2]
  [Sz x.1 k] [Sz x.2 k] [Sz y.1 k] [Sz y.2 k] [Sz u.1 k] [Sz u.2 k] [Sz v.1 k] [Sz v.2 k], k <= 2 ^ 20 -> Calls Tryz.prog n #[rgv s t s2 t2, rgv s3 t3 s4 t4] w (GRet w (re x y u v) (im x y u v))
 run : ∀ (args : Array Value) (w : World), Sem.run Tryz.prog (callFunc n args) w = .ok (.enter n args) w
 size : ∀ {x y u v : Rat × Rat} [Sz x.1 600] [Sz x.2 600] [Sz y.1 600] [Sz y.2 600] [Sz u.1 600] [Sz u.2 600] [Sz v.1 600] [Sz v.2 600], (Sz (re x y u v).1 5000 /\ Sz (re x y u v).2 5000) /\ (Sz (im x y u v).1 5000 /\ Sz (im x y u v).2 5000)
theorem Sz.le {q : Rat} {a b : Nat} (h : Sz q a) (hab : a <= b) : Sz q b := ⟨Nat.le_trans h.num hab, Nat.le_trans h.den hab⟩
theorem opRgTimes : OpRg 106 mulRe mulIm where
 call h := rg_times_c h
 run args w := by kernel_rfl
 size {x y u v} _ _ _ _ _ _ _ _ := ⟨⟨(inferInstance : Sz (subI (mulI x u) (mulI y v)).1 _).le (by decide), (inferInstance : Sz (subI (mulI x u) (mulI y v)).2 _).le (by decide)⟩,
  (inferInstance : Sz (addI (mulI x v) (mulI y u)).1 _).le (by decide), (inferInstance : Sz (addI (mulI x v) (mulI y u)).2 _).le (by decide)⟩
section
variable {w : World} {a b c d e f g h : List UInt8}
theorem onBoxes_c {n : FuncId} {re im : Rat × Rat -> Rat × Rat -> Rat × Rat -> Rat × Rat -> Rat × Rat} (ho : OpRg n re im) [hg : Glo w]
  (h1 : a.length < 2 ^ 40) (h2 : b.length < 2 ^ 40) (h3 : c.length < 2 ^ 40) (h4 : d.length < 2 ^ 40) (h5 : e.length < 2 ^ 40) (h6 : f.length < 2 ^ 40) (h7 : g.length < 2 ^ 40) (h8 : h.length < 2 ^ 40) :
  Calls Tryz.prog 105 #[bxv a b c d, bxv e f g h, .func (.func n) #[] #[]] w (PRet w (onB re im a b c d e f g h)) := by
 have HO := Hid.mk ho
 have hrun := ho.run
 obtain ⟨E, hE⟩ : ∃ E, bxE8 a b c d e f g h = E := ⟨_, rfl⟩
 have HE := Hid.mk hE
 have HR1 := Hid.mk (show ∀ w, Calls _ _ _ w _ from fun w => zdL (w := w) h1 h2 h3 h4)
 have HR2 := Hid.mk (show ∀ w, Calls _ _ _ w _ from fun w => zdL (w := w) h5 h6 h7 h8)
 have HV1 := Hid.mk (show E ≠ 0 -> onB re im a b c d e f g h = badB E from fun hh => by unfold onB; rw [hE, if_neg hh])
 have HV2 := Hid.mk (show E = 0 -> onB re im a b c d e f g h = ze3 (re (rdI a b) (rdI c d) (rdI e f) (rdI g h)) (im (rdI a b) (rdI c d) (rdI e f) (rdI g h)) from fun hh => by unfold onB; rw [hE, if_pos hh])
 have sz := ho.size (x := rdI a b) (y := rdI c d) (u := rdI e f) (v := rdI g h)
 obtain ⟨⟨z1, z2⟩, z3, z4⟩ := sz
 clear h1 h2 h3 h4 h5 h6 h7 h8 hE ho
 go_enter Tryz.func105, Tryz.ntmps105
 go_wp2_with fail
 refine Calls.mono (HR1.out _) ?_
 rintro e w1 ⟨q1, q2, q3, q4, rfl, i1, i2, i3, i4, _⟩
 go_wp2_with fail
 refine Calls.mono (HR2.out _) ?_
 rintro e w1 ⟨q5, q6, q7, q8, rfl, i5, i6, i7, i8, _⟩
 go_wp2_with fail
 refine Calls.mono zaH ?_
 rw [show or2 (spE2 a b c d) (spE2 e f g h) = E from HE.out]
 rintro e w3 ⟨rfl, _⟩
 go_wp2_with fail
 ·have h0 : E ≠ 0 := ne_b (by assumption)
  simp [bodyPost, results, Tryz.results105, go_sem]
  exact ⟨by rw [HV1.out h0]; rfl, zaa⟩
 ·have h0 : E = 0 := eq_b (by assumption)
  have hb := zeT (HE.out.trans h0)
  have i1 : RatIs w3 q1.v (rdI a b).1 := zq_ok (E := spE2 a b c d) inferInstance hb.1
  have i2 : RatIs w3 q2.v (rdI a b).2 := zq_ok (E := spE2 a b c d) inferInstance hb.1
  have i3 : RatIs w3 q3.v (rdI c d).1 := zq_ok (E := spE2 a b c d) inferInstance hb.1
  have i4 : RatIs w3 q4.v (rdI c d).2 := zq_ok (E := spE2 a b c d) inferInstance hb.1
  have i5 : RatIs w3 q5.v (rdI e f).1 := zq_ok (E := spE2 e f g h) inferInstance hb.2
  have i6 : RatIs w3 q6.v (rdI e f).2 := zq_ok (E := spE2 e f g h) inferInstance hb.2
  have i7 : RatIs w3 q7.v (rdI g h).1 := zq_ok (E := spE2 e f g h) inferInstance hb.2
  have i8 : RatIs w3 q8.v (rdI g h).2 := zq_ok (E := spE2 e f g h) inferInstance hb.2
  refine Calls.mono (HO.out.call (x := rdI a b) (y := rdI c d) (u := rdI e f) (v := rdI g h) (by decide)) ?_
  rintro e w4 ⟨p1, p2, p3, p4, rfl, _, _, _, _, _⟩
  go_wp2_with fail
  refine Calls.mono (zee (x := re (rdI a b) (rdI c d) (rdI e f) (rdI g h)) (y := im (rdI a b) (rdI c d) (rdI e f) (rdI g h)) (by decide) (by decide) (by decide) (by decide)) ?_
  rintro e w5 ⟨rfl, _⟩
  go_wp2_with fail
  simp [bodyPost, results, Tryz.results105, go_sem]
  exact ⟨by rw [HV2.out h0]; rfl, zaa⟩
theorem MulBox_c [hg : Glo w] (h1 : a.length < 2 ^ 40) (h2 : b.length < 2 ^ 40) (h3 : c.length < 2 ^ 40) (h4 : d.length < 2 ^ 40) (h5 : e.length < 2 ^ 40) (h6 : f.length < 2 ^ 40) (h7 : g.length < 2 ^ 40) (h8 : h.length < 2 ^ 40) :
  Calls Tryz.prog 44 #[bxv a b c d, bxv e f g h] w (PRet w (onB mulRe mulIm a b c d e f g h)) := by
 have HO := Hid.mk (show ∀ (w : World) [Glo w], Calls _ _ _ w _ from fun w _ => onBoxes_c (w := w) opRgTimes h1 h2 h3 h4 h5 h6 h7 h8)
 obtain ⟨A, B, C, D, E, hV⟩ := onB_form mulRe mulIm a b c d e f g h
 rw [hV] at HO ⊢
 clear h1 h2 h3 h4 h5 h6 h7 h8 hV
 go_enter Tryz.func44, Tryz.ntmps44
 go_wp2_with fail
 refine Calls.mono (HO.out _) ?_
 rintro e w1 ⟨rfl, _⟩
 go_wp2_with fail
 simp [bodyPost, results, Tryz.results44, go_sem]
 exact ⟨rfl, zaa⟩
theorem Conjugate_c [hg : Glo w] (h1 : a.length < 2 ^ 40) (h2 : b.length < 2 ^ 40) (h3 : c.length < 2 ^ 40) (h4 : d.length < 2 ^ 40) :
  Calls Tryz.prog 46 #[bxv a b c d] w (PRet w (conjV a b c d)) := by
 obtain ⟨E, hE⟩ : ∃ E, spE2 a b c d = E := ⟨_, rfl⟩
 have HR1 := Hid.mk (show ∀ w, Calls _ _ _ w _ from fun w => zdL (w := w) h1 h2 h3 h4)
 rw [hE] at HR1
 have HV1 := Hid.mk (show E ≠ 0 -> conjV a b c d = badB E from fun hh => by unfold conjV; rw [hE, if_neg hh])
 have HV2 := Hid.mk (show E = 0 -> conjV a b c d = ze3 (rdI a b) (-(rdI c d).2, -(rdI c d).1) from fun hh => by unfold conjV; rw [hE, if_pos hh]; rfl)
 have z3 : Sz (-(rdI c d).2, -(rdI c d).1).1 600 := (inferInstance : Sz (-(rdI c d).2) 600)
 have z4 : Sz (-(rdI c d).2, -(rdI c d).1).2 600 := (inferInstance : Sz (-(rdI c d).1) 600)
 clear h1 h2 h3 h4 hE
 go_enter Tryz.func46, Tryz.ntmps46
 go_wp2_with fail
 refine Calls.mono (HR1.out _) ?_
 rintro e w1 ⟨q1, q2, q3, q4, rfl, i1, i2, i3, i4, _⟩
 go_wp2_with fail
 ·have h0 : E ≠ 0 := ne_b (by assumption)
  simp [bodyPost, results, Tryz.results46, go_sem]
  exact ⟨by rw [HV1.out h0]; rfl, zaa⟩
 ·have h0 : E = 0 := eq_b (by assumption)
  have i1 : RatIs w1 q1.v (rdI a b).1 := zq_ok i1 h0
  have i2 : RatIs w1 q2.v (rdI a b).2 := zq_ok i2 h0
  have i3 : RatIs w1 q3.v (rdI c d).1 := zq_ok i3 h0
  have i4 : RatIs w1 q4.v (rdI c d).2 := zq_ok i4 h0
  go_wp2_with fail
  (refine Code.nameW ?_; intro W hW; go_region_held3 (fun w' => ButO W [w.heap.size + 1] w') (exact zab) (((first | (go_at_call 109; refine Calls.mono (negated_c (x := rdI c d)) ?_; rintro e w1 ⟨p1, p2, rfl, _, _, _⟩) | (go_at_call 104; refine Calls.mono (zee (x := rdI a b) (y := (-(rdI c d).2, -(rdI c d).1)) (by decide) (by decide) (by decide) (by decide)) ?_; rintro e w1 ⟨rfl, _⟩)))))
  all_goals go_wp2_with fail
  all_goals simp [bodyPost, results, Tryz.results46, go_sem]
  all_goals exact ⟨by rw [HV2.out h0]; rfl, zaa⟩
theorem Norm_c [hg : Glo w] (h1 : a.length < 2 ^ 40) (h2 : b.length < 2 ^ 40) (h3 : c.length < 2 ^ 40) (h4 : d.length < 2 ^ 40) :
  Calls Tryz.prog 47 #[bxv a b c d] w (PRet w (normV a b c d)) := by
 obtain ⟨E, hE⟩ : ∃ E, spE2 a b c d = E := ⟨_, rfl⟩
 have HR1 := Hid.mk (show ∀ w, Calls _ _ _ w _ from fun w => zdL (w := w) h1 h2 h3 h4)
 rw [hE] at HR1
 have HV1 := Hid.mk (show E ≠ 0 -> normV a b c d = badS E from fun hh => by unfold normV; rw [hE, if_neg hh])
 have HV2 := Hid.mk (show E = 0 -> normV a b c d = zbw (addI (sqI (rdI a b)) (sqI (rdI c d))) from fun hh => by unfold normV; rw [hE, if_pos hh])
 have y1 := sqI_sz (x := rdI a b) (k := 1200) inferInstance inferInstance
 have y2 := sqI_sz (x := rdI c d) (k := 1200) inferInstance inferInstance
 obtain ⟨y1, y3⟩ := y1
 obtain ⟨y2, y4⟩ := y2
 clear h1 h2 h3 h4 hE
 go_enter Tryz.func47, Tryz.ntmps47
 go_wp2_with fail
 refine Calls.mono (HR1.out _) ?_
 rintro e w1 ⟨q1, q2, q3, q4, rfl, i1, i2, i3, i4, _⟩
 go_wp2_with fail
 ·have h0 : E ≠ 0 := ne_b (by assumption)
  simp [bodyPost, results, Tryz.results47, go_sem]
  exact ⟨by rw [HV1.out h0]; rfl, zaa⟩
 ·have h0 : E = 0 := eq_b (by assumption)
  have i1 : RatIs w1 q1.v (rdI a b).1 := zq_ok i1 h0
  have i2 : RatIs w1 q2.v (rdI a b).2 := zq_ok i2 h0
  have i3 : RatIs w1 q3.v (rdI c d).1 := zq_ok i3 h0
  have i4 : RatIs w1 q4.v (rdI c d).2 := zq_ok i4 h0
  go_wp2_with fail
  (refine Code.nameW ?_; intro W hW; go_region_held3 (fun w' => ButO W [w.heap.size + 1] w') (exact zab) (((first | (go_at_call 98; refine Calls.mono (square_c (by decide)) ?_; rintro e w1 ⟨p1, p2, rfl, _, _, _⟩) | (go_at_call 110; refine Calls.mono (plus_c (x := sqI (rdI a b)) (y := sqI (rdI c d)) (by decide)) ?_; rintro e w1 ⟨p1, p2, rfl, _, _, _⟩) | (go_at_call 96; refine Calls.mono (za8 (x := addI (sqI (rdI a b)) (sqI (rdI c d))) (by decide) (by decide)) ?_; rintro e w1 ⟨rfl, _⟩)))))
  all_goals go_wp2_with fail
  all_goals simp [bodyPost, results, Tryz.results47, go_sem]
  all_goals exact ⟨by rw [HV2.out h0]; rfl, zaa⟩
end
end
end Go.Proofs.YtamnflfakogigaaGreatDoor
