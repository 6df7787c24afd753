import Derived.Test.YtamnflfakogigaaGreatDoorM37
set_option maxHeartbeats 6400000
set_option maxRecDepth 100000
set_option synthInstance.maxSize 20000
set_option linter.all false
namespace Go.Proofs.YtamnflfakogigaaGreatDoor
section
open Go.RowKit Go.Sort Go.Lib
instance {y0 y1 y2 y3 y4 y5 y6 y7 y8 y9 y10 y11 x : Value} : SetAt #[y0, y1, y2, y3, y4, y5, y6, y7, y8, y9, y10, y11] 0 x #[x, y1, y2, y3, y4, y5, y6, y7, y8, y9, y10, y11] := ⟨rfl⟩
instance {y0 y1 y2 y3 y4 y5 y6 y7 y8 y9 y10 y11 x : Value} : SetAt #[y0, y1, y2, y3, y4, y5, y6, y7, y8, y9, y10, y11] 1 x #[y0, x, y2, y3, y4, y5, y6, y7, y8, y9, y10, y11] := ⟨rfl⟩
instance {y0 y1 y2 y3 y4 y5 y6 y7 y8 y9 y10 y11 x : Value} : SetAt #[y0, y1, y2, y3, y4, y5, y6, y7, y8, y9, y10, y11] 2 x #[y0, y1, x, y3, y4, y5, y6, y7, y8, y9, y10, y11] := ⟨rfl⟩
instance {y0 y1 y2 y3 y4 y5 y6 y7 y8 y9 y10 y11 x : Value} : SetAt #[y0, y1, y2, y3, y4, y5, y6, y7, y8, y9, y10, y11] 3 x #[y0, y1, y2, x, y4, y5, y6, y7, y8, y9, y10, y11] := ⟨rfl⟩
instance {y0 y1 y2 y3 y4 y5 y6 y7 y8 y9 y10 y11 x : Value} : SetAt #[y0, y1, y2, y3, y4, y5, y6, y7, y8, y9, y10, y11] 4 x #[y0, y1, y2, y3, x, y5, y6, y7, y8, y9, y10, y11] := ⟨rfl⟩
instance {y0 y1 y2 y3 y4 y5 y6 y7 y8 y9 y10 y11 x : Value} : SetAt #[y0, y1, y2, y3, y4, y5, y6, y7, y8, y9, y10, y11] 5 x #[y0, y1, y2, y3, y4, x, y6, y7, y8, y9, y10, y11] := ⟨rfl⟩
instance {y0 y1 y2 y3 y4 y5 y6 y7 y8 y9 y10 y11 x : Value} : SetAt #[y0, y1, y2, y3, y4, y5, y6, y7, y8, y9, y10, y11] 6 x #[y0, y1, y2, y3, y4, y5, x, y7, y8, y9, y10, y11] := ⟨rfl⟩
instance {y0 y1 y2 y3 y4 y5 y6 y7 y8 y9 y10 y11 x : Value} : SetAt #[y0, y1, y2, y3, y4, y5, y6, y7, y8, y9, y10, y11] 7 x #[y0, y1, y2, y3, y4, y5, y6, x, y8, y9, y10, y11] := ⟨rfl⟩
instance {y0 y1 y2 y3 y4 y5 y6 y7 y8 y9 y10 y11 x : Value} : SetAt #[y0, y1, y2, y3, y4, y5, y6, y7, y8, y9, y10, y11] 8 x #[y0, y1, y2, y3, y4, y5, y6, y7, x, y9, y10, y11] := ⟨rfl⟩
instance {y0 y1 y2 y3 y4 y5 y6 y7 y8 y9 y10 y11 x : Value} : SetAt #[y0, y1, y2, y3, y4, y5, y6, y7, y8, y9, y10, y11] 9 x #[y0, y1, y2, y3, y4, y5, y6, y7, y8, x, y10, y11] := ⟨rfl⟩
instance {y0 y1 y2 y3 y4 y5 y6 y7 y8 y9 y10 y11 x : Value} : SetAt #[y0, y1, y2, y3, y4, y5, y6, y7, y8, y9, y10, y11] 10 x #[y0, y1, y2, y3, y4, y5, y6, y7, y8, y9, x, y11] := ⟨rfl⟩
instance {y0 y1 y2 y3 y4 y5 y6 y7 y8 y9 y10 y11 x : Value} : SetAt #[y0, y1, y2, y3, y4, y5, y6, y7, y8, y9, y10, y11] 11 x #[y0, y1, y2, y3, y4, y5, y6, y7, y8, y9, y10, x] := ⟨rfl⟩
instance {y0 y1 y2 y3 y4 y5 y6 y7 y8 y9 y10 y11 : Value} [h : NW y0] : zaj #[y0, y1, y2, y3, y4, y5, y6, y7, y8, y9, y10, y11] 0 := ⟨fun u e => h.out u (Option.some.inj e)⟩
instance {y0 y1 y2 y3 y4 y5 y6 y7 y8 y9 y10 y11 : Value} [h : NW y1] : zaj #[y0, y1, y2, y3, y4, y5, y6, y7, y8, y9, y10, y11] 1 := ⟨fun u e => h.out u (Option.some.inj e)⟩
instance {y0 y1 y2 y3 y4 y5 y6 y7 y8 y9 y10 y11 : Value} [h : NW y2] : zaj #[y0, y1, y2, y3, y4, y5, y6, y7, y8, y9, y10, y11] 2 := ⟨fun u e => h.out u (Option.some.inj e)⟩
instance {y0 y1 y2 y3 y4 y5 y6 y7 y8 y9 y10 y11 : Value} [h : NW y3] : zaj #[y0, y1, y2, y3, y4, y5, y6, y7, y8, y9, y10, y11] 3 := ⟨fun u e => h.out u (Option.some.inj e)⟩
instance {y0 y1 y2 y3 y4 y5 y6 y7 y8 y9 y10 y11 : Value} [h : NW y4] : zaj #[y0, y1, y2, y3, y4, y5, y6, y7, y8, y9, y10, y11] 4 := ⟨fun u e => h.out u (Option.some.inj e)⟩
instance {y0 y1 y2 y3 y4 y5 y6 y7 y8 y9 y10 y11 : Value} [h : NW y5] : zaj #[y0, y1, y2, y3, y4, y5, y6, y7, y8, y9, y10, y11] 5 := ⟨fun u e => h.out u (Option.some.inj e)⟩
instance {y0 y1 y2 y3 y4 y5 y6 y7 y8 y9 y10 y11 : Value} [h : NW y6] : zaj #[y0, y1, y2, y3, y4, y5, y6, y7, y8, y9, y10, y11] 6 := ⟨fun u e => h.out u (Option.some.inj e)⟩
instance {y0 y1 y2 y3 y4 y5 y6 y7 y8 y9 y10 y11 : Value} [h : NW y7] : zaj #[y0, y1, y2, y3, y4, y5, y6, y7, y8, y9, y10, y11] 7 := ⟨fun u e => h.out u (Option.some.inj e)⟩
instance {y0 y1 y2 y3 y4 y5 y6 y7 y8 y9 y10 y11 : Value} [h : NW y8] : zaj #[y0, y1, y2, y3, y4, y5, y6, y7, y8, y9, y10, y11] 8 := ⟨fun u e => h.out u (Option.some.inj e)⟩
instance {y0 y1 y2 y3 y4 y5 y6 y7 y8 y9 y10 y11 : Value} [h : NW y9] : zaj #[y0, y1, y2, y3, y4, y5, y6, y7, y8, y9, y10, y11] 9 := ⟨fun u e => h.out u (Option.some.inj e)⟩
instance {y0 y1 y2 y3 y4 y5 y6 y7 y8 y9 y10 y11 : Value} [h : NW y10] : zaj #[y0, y1, y2, y3, y4, y5, y6, y7, y8, y9, y10, y11] 10 := ⟨fun u e => h.out u (Option.some.inj e)⟩
instance {y0 y1 y2 y3 y4 y5 y6 y7 y8 y9 y10 y11 : Value} [h : NW y11] : zaj #[y0, y1, y2, y3, y4, y5, y6, y7, y8, y9, y10, y11] 11 := ⟨fun u e => h.out u (Option.some.inj e)⟩
@[go_sem] theorem get_12_0 {y0 y1 y2 y3 y4 y5 y6 y7 y8 y9 y10 y11 : Value} : #[y0, y1, y2, y3, y4, y5, y6, y7, y8, y9, y10, y11][0]? = some y0 := rfl
@[go_sem] theorem get_12_1 {y0 y1 y2 y3 y4 y5 y6 y7 y8 y9 y10 y11 : Value} : #[y0, y1, y2, y3, y4, y5, y6, y7, y8, y9, y10, y11][1]? = some y1 := rfl
@[go_sem] theorem get_12_2 {y0 y1 y2 y3 y4 y5 y6 y7 y8 y9 y10 y11 : Value} : #[y0, y1, y2, y3, y4, y5, y6, y7, y8, y9, y10, y11][2]? = some y2 := rfl
@[go_sem] theorem get_12_3 {y0 y1 y2 y3 y4 y5 y6 y7 y8 y9 y10 y11 : Value} : #[y0, y1, y2, y3, y4, y5, y6, y7, y8, y9, y10, y11][3]? = some y3 := rfl
@[go_sem] theorem get_12_4 {y0 y1 y2 y3 y4 y5 y6 y7 y8 y9 y10 y11 : Value} : #[y0, y1, y2, y3, y4, y5, y6, y7, y8, y9, y10, y11][4]? = some y4 := rfl
@[go_sem] theorem get_12_5 {y0 y1 y2 y3 y4 y5 y6 y7 y8 y9 y10 y11 : Value} : #[y0, y1, y2, y3, y4, y5, y6, y7, y8, y9, y10, y11][5]? = some y5 := rfl
@[go_sem] theorem get_12_6 {y0 y1 y2 y3 y4 y5 y6 y7 y8 y9 y10 y11 : Value} : #[y0, y1, y2, y3, y4, y5, y6, y7, y8, y9, y10, y11][6]? = some y6 := rfl
@[go_sem] theorem get_12_7 {y0 y1 y2 y3 y4 y5 y6 y7 y8 y9 y10 y11 : Value} : #[y0, y1, y2, y3, y4, y5, y6, y7, y8, y9, y10, y11][7]? = some y7 := rfl
@[go_sem] theorem get_12_8 {y0 y1 y2 y3 y4 y5 y6 y7 y8 y9 y10 y11 : Value} : #[y0, y1, y2, y3, y4, y5, y6, y7, y8, y9, y10, y11][8]? = some y8 := rfl
@[go_sem] theorem get_12_9 {y0 y1 y2 y3 y4 y5 y6 y7 y8 y9 y10 y11 : Value} : #[y0, y1, y2, y3, y4, y5, y6, y7, y8, y9, y10, y11][9]? = some y9 := rfl
@[go_sem] theorem get_12_10 {y0 y1 y2 y3 y4 y5 y6 y7 y8 y9 y10 y11 : Value} : #[y0, y1, y2, y3, y4, y5, y6, y7, y8, y9, y10, y11][10]? = some y10 := rfl
@[go_sem] theorem get_12_11 {y0 y1 y2 y3 y4 y5 y6 y7 y8 y9 y10 y11 : Value} : #[y0, y1, y2, y3, y4, y5, y6, y7, y8, y9, y10, y11][11]? = some y11 := rfl
@[reducible, go_sem] def rgv (s t s2 t2 : RV) : Value := .agg #[.bool s.n.b, .slice s.n.m.A s.n.m.k s.n.m.c, .slice s.d.A s.d.k s.d.c, .bool t.n.b, .slice t.n.m.A t.n.m.k t.n.m.c, .slice t.d.A t.d.k t.d.c, .bool s2.n.b, .slice s2.n.m.A s2.n.m.k s2.n.m.c, .slice s2.d.A s2.d.k s2.d.c, .bool t2.n.b, .slice t2.n.m.A t2.n.m.k t2.n.m.c, .slice t2.d.A t2.d.k t2.d.c]
@[reducible, go_sem] def bxv (a b c d : List UInt8) : Value := .agg #[str a, str b, str c, str d]
def GRet (w : World) (x y : Rat × Rat) (e : Ending) (w' : World) : Prop := ∃ s t s2 t2 : RV, e = .returned (rgv s t s2 t2) /\ RatIs w' s.v x.1 /\ RatIs w' t.v x.2 /\ RatIs w' s2.v y.1 /\ RatIs w' t2.v y.2 /\ Nxt w w'
def mulRe (x y u v : Rat × Rat) : Rat × Rat := subI (mulI x u) (mulI y v)
def mulIm (x y u v : Rat × Rat) : Rat × Rat := addI (mulI x v) (mulI y u)
def bxE (x y : Rat × Rat) : Int := or2 (wE2 x) (wE2 y)
def bxA (x y : Rat × Rat) : List UInt8 := if bxE x y = 0 then wLo x else []
def bxB (x y : Rat × Rat) : List UInt8 := if bxE x y = 0 then wHi x else []
def bxC (x y : Rat × Rat) : List UInt8 := if bxE x y = 0 then wLo y else []
def bxD (x y : Rat × Rat) : List UInt8 := if bxE x y = 0 then wHi y else []
def ze3 (x y : Rat × Rat) : Value := .tuple #[bxv (bxA x y) (bxB x y) (bxC x y) (bxD x y), .int .i64 (bxE x y)]
def badB (e : Int) : Value := .tuple #[bxv [] [] [] [], .int .i64 e]
section
variable {w : World} {x y u v : Rat × Rat} {k : Nat} {s t s2 t2 s3 t3 s4 t4 : RV}
theorem rg_times_c [h1 : RatIs w s.v x.1] [h2 : RatIs w t.v x.2] [h3 : RatIs w s2.v y.1] [h4 : RatIs w t2.v y.2] [h5 : RatIs w s3.v u.1] [h6 : RatIs w t3.v u.2] [h7 : RatIs w s4.v v.1] [h8 : RatIs w t4.v v.2]
  [d1 : Sz x.1 k] [d2 : Sz x.2 k] [d3 : Sz y.1 k] [d4 : Sz y.2 k] [d5 : Sz u.1 k] [d6 : Sz u.2 k] [d7 : Sz v.1 k] [d8 : Sz v.2 k] (hl : k <= 2 ^ 20) :
  Calls Tryz.prog 106 #[rgv s t s2 t2, rgv s3 t3 s4 t4] w (GRet w (mulRe x y u v) (mulIm x y u v)) := by
 have HL := Hid.mk hl
 have HM := Hid.mk (show mulRe x y u v = subI (mulI x u) (mulI y v) from rfl)
 have HN := Hid.mk (show mulIm x y u v = addI (mulI x v) (mulI y u) from rfl)
 clear hl
 go_enter Tryz.func106, Tryz.ntmps106
 go_wp2_with fail
 (refine Code.nameW ?_; intro W hW; go_region_held3 (fun w' => ButO W [w.heap.size + 1 + 1] w') (exact zab) (((first | (go_at_call 92; refine Calls.mono (times_c (by have := HL.out; omega)) ?_; rintro e w1 ⟨p1, p2, rfl, _, _, _⟩) | (go_at_call 172; refine Calls.mono (minus_c (by have := HL.out; omega)) ?_; rintro e w1 ⟨p1, p2, rfl, _, _, _⟩) | (go_at_call 110; refine Calls.mono (plus_c (by have := HL.out; omega)) ?_; rintro e w1 ⟨p1, p2, rfl, _, _, _⟩)))))
 all_goals go_wp2_with fail
 all_goals simp [bodyPost, results, Tryz.results106, go_sem]
 all_goals exact ⟨_, _, _, _, rfl, by rw [HM.out]; infer_instance, by rw [HM.out]; infer_instance, by rw [HN.out]; infer_instance, by rw [HN.out]; infer_instance, zaa⟩
theorem zee {a b c d : Nat} [h1 : RatIs w s.v x.1] [h2 : RatIs w t.v x.2] [h3 : RatIs w s2.v y.1] [h4 : RatIs w t2.v y.2] [d1 : Sz x.1 a] [d2 : Sz x.2 b] [d3 : Sz y.1 c] [d4 : Sz y.2 d] [hg : Glo w] (ha : a <= 2 ^ 20) (hb : b <= 2 ^ 20) (hc : c <= 2 ^ 20) (hd : d <= 2 ^ 20) :
  Calls Tryz.prog 104 #[rgv s t s2 t2] w (PRet w (.tuple #[bxv (bxA x y) (bxB x y) (bxC x y) (bxD x y), .int .i64 (bxE x y)])) := by
 obtain ⟨E, hE⟩ : ∃ E, bxE x y = E := ⟨_, rfl⟩
 have HE := Hid.mk hE
 have HV1 := Hid.mk (show E ≠ 0 -> bxA x y = [] /\ bxB x y = [] /\ bxC x y = [] /\ bxD x y = [] from fun h => by unfold bxA bxB bxC bxD; rw [hE, if_neg h, if_neg h, if_neg h, if_neg h]; exact ⟨rfl, rfl, rfl, rfl⟩)
 have HV2 := Hid.mk (show E = 0 -> bxA x y = wLo x /\ bxB x y = wHi x /\ bxC x y = wLo y /\ bxD x y = wHi y from fun h => by unfold bxA bxB bxC bxD; rw [hE, if_pos h, if_pos h, if_pos h, if_pos h]; exact ⟨rfl, rfl, rfl, rfl⟩)
 rw [hE]
 have HA := Hid.mk ha; have HB := Hid.mk hb; have HC := Hid.mk hc; have HD := Hid.mk hd
 clear hE ha hb hc hd
 go_enter Tryz.func104, Tryz.ntmps104
 go_wp2_with fail
 refine Calls.mono (za8 (x := x) HA.out HB.out) ?_
 rintro e w1 ⟨rfl, _⟩
 go_wp2_with fail
 refine Calls.mono (za8 (x := y) HC.out HD.out) ?_
 rintro e w1 ⟨rfl, _⟩
 go_wp2_with fail
 refine Calls.mono zaH ?_
 rw [show or2 (wE2 x) (wE2 y) = E from HE.out]
 rintro e w3 ⟨rfl, _⟩
 go_wp2_with fail
 ·have h0 : E ≠ 0 := ne_b (by assumption)
  simp [bodyPost, results, Tryz.results104, go_sem]
  obtain ⟨e1, e2, e3, e4⟩ := HV1.out h0
  exact ⟨by rw [e1, e2, e3, e4], zaa⟩
 ·have h0 : E = 0 := eq_b (by assumption)
  simp [bodyPost, results, Tryz.results104, go_sem]
  obtain ⟨e1, e2, e3, e4⟩ := HV2.out h0
  exact ⟨by rw [e1, e2, e3, e4, h0], zaa⟩
theorem zdL {a b c d : List UInt8} (h1 : a.length < 2 ^ 40) (h2 : b.length < 2 ^ 40) (h3 : c.length < 2 ^ 40) (h4 : d.length < 2 ^ 40) :
  Calls Tryz.prog 108 #[bxv a b c d] w (fun e w' => ∃ s t s2 t2 : RV, e = .returned (.tuple #[rgv s t s2 t2, .int .i64 (spE2 a b c d)]) /\
   RatIs w' s.v (zq (spE2 a b c d) (readQ a)) /\ RatIs w' t.v (zq (spE2 a b c d) (readQ b)) /\ RatIs w' s2.v (zq (spE2 a b c d) (readQ c)) /\ RatIs w' t2.v (zq (spE2 a b c d) (readQ d)) /\ Nxt w w') := by
 obtain ⟨E, hE⟩ : ∃ E, spE2 a b c d = E := ⟨_, rfl⟩
 have HRD := Hid.mk (show ∀ w, Calls _ _ _ w _ from fun w => zbX (w := w) h1 h2 h3 h4)
 rw [hE] at HRD ⊢
 clear h1 h2 h3 h4 hE
 go_enter Tryz.func108, Tryz.ntmps108
 go_wp2_with fail
 refine Calls.mono (HRD.out _) ?_
 rintro e w1 ⟨q1, q2, q3, q4, rfl, i1, i2, i3, i4, _⟩
 go_wp2_with fail
 ·have h0 : E ≠ 0 := ne_b (by assumption)
  simp [bodyPost, results, Tryz.results108, go_sem]
  exact ⟨zr, zr, zr, zr, (by repeat' (first | apply And.intro | rfl)), zch h0, zch h0, zch h0, zch h0, zaa⟩
 ·have h0 : E = 0 := eq_b (by assumption)
  subst h0
  simp [bodyPost, results, Tryz.results108, go_sem]
  exact ⟨q1, q2, q3, q4, (by repeat' (first | apply And.intro | rfl)), inferInstance, inferInstance, inferInstance, inferInstance, zaa⟩
end
end
end Go.Proofs.YtamnflfakogigaaGreatDoor
