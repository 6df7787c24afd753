/-
 NumberSums: for every two texts (of at most 1300 bytes, else the law only asks for the examples) the law returns true: Check, Add, Sub, Mul, Div and Order answer as the reference does, or with the first error; the arguments read behind the call as before. Conditions: those of the given card alone (the three listed tables of the library hold what the program's text lays).
-/
import Derived.Test.YtamnflfakogigaaGreatDoorM50
import Derived.Test.YtamnflfakogigaaGreatDoorCardBase
import Derived.Test.YtamnflfakogigaaGreatDoorCards
import Derived.Test.YtamnflfakogigaaGreatDoorTie
set_option maxHeartbeats 12800000
set_option maxRecDepth 100000
set_option synthInstance.maxSize 20000
set_option linter.all false
namespace Go.Proofs.YtamnflfakogigaaGreatDoor
section
open Go.RowKit Go.Sort Go.Lib
def opV (op : Rat -> Rat -> Rat) (a b : List UInt8) : Value := if zbx a b = 0 then wV (op (readQ a) (readQ b)) else .tuple #[str [], .int .i64 (zbx a b)]
def divV (a b : List UInt8) : Value := if zbx a b = 0 then (if readQ b = 0 then .tuple #[str [], .int .i64 6] else wV (readQ a / readQ b)) else .tuple #[str [], .int .i64 (zbx a b)]
def ordV (a b : List UInt8) : Value := if zbx a b = 0 then .tuple #[.int .i64 (cmpQ (readQ a) (readQ b)), .int .i64 0] else .tuple #[.int .i64 0, .int .i64 (zbx a b)]
theorem opV_form (op : Rat -> Rat -> Rat) (a b : List UInt8) : ∃ L E, opV op a b = .tuple #[str L, .int .i64 E] := by
 unfold opV wV
 split <;> exact ⟨_, _, rfl⟩
theorem sgnI_z {x : Int} (h : (sgnI x == 0) = true) : x = 0 := by
 have h : sgnI x = 0 := by simpa using h
 unfold sgnI at h
 split at h
 ·omega
 ·split at h
  ·assumption
  ·omega
section
variable {w : World} {a b : List UInt8}
theorem zdv {n : FuncId} {op : Rat -> Rat -> Rat} (ho : OpIs n op) [hg : Glo w] (h1 : a.length < 2 ^ 40) (h2 : b.length < 2 ^ 40) :
  Calls Tryz.prog 62 #[str a, str b, .func (.func n) #[] #[]] w (PRet w (opV op a b)) := by
 have HO := Hid.mk ho
 have hrun := ho.run
 obtain ⟨E, hE⟩ : ∃ E, zbx a b = E := ⟨_, rfl⟩
 have HRD := Hid.mk (show ∀ w, Calls _ _ _ w _ from fun w => zdK (w := w) h1 h2)
 rw [hE] at HRD
 have HV1 := Hid.mk (show E ≠ 0 -> opV op a b = .tuple #[str [], .int .i64 E] from fun h => by unfold opV; rw [hE, if_neg h])
 have HV2 := Hid.mk (show E = 0 -> opV op a b = wV (op (readQ a) (readQ b)) from fun h => by unfold opV; rw [hE, if_pos h])
 have sz := ho.size (za0 a) (za0 b)
 clear h1 h2 hE ho
 go_enter Tryz.func62, Tryz.ntmps62
 go_wp2_with fail
 refine Calls.mono (HRD.out _) ?_
 rintro e w1 ⟨q1, q2, rfl, i1, i2, _⟩
 go_wp2_with fail
 ·have h0 : E ≠ 0 := ne_b (by assumption)
  simp [bodyPost, results, Tryz.results62, go_sem]
  exact ⟨by rw [HV1.out h0] <;> rfl, zaa⟩
 ·have h0 : E = 0 := eq_b (by assumption)
  have i1 : RatIs w1 q1.v (readQ a) := zq_ok i1 h0
  have i2 : RatIs w1 q2.v (readQ b) := zq_ok i2 h0
  refine Calls.mono (HO.out.call (q := readQ a) (r := readQ b) (by decide)) ?_
  rintro e w2 ⟨p1, rfl, _, _⟩
  go_wp2_with fail
  refine Calls.mono (zbj (q := op (readQ a) (readQ b)) (by decide)) ?_
  rintro e w3 ⟨rfl, _⟩
  go_wp2_with fail
  simp [bodyPost, results, Tryz.results62, go_sem]
  exact ⟨by rw [HV2.out h0] <;> rfl, zaa⟩
theorem number_Add_c [hg : Glo w] (h1 : a.length < 2 ^ 40) (h2 : b.length < 2 ^ 40) : Calls Tryz.prog 11 #[str a, str b] w (PRet w (opV (fun q r => q + r) a b)) := by
 have HO := Hid.mk (show ∀ (w : World) [Glo w], Calls _ _ _ w _ from fun w _ => zdv (w := w) opAdd h1 h2)
 obtain ⟨L, E, hV⟩ := opV_form (fun q r => q + r) a b
 rw [hV] at HO ⊢
 clear h1 h2 hV
 go_enter Tryz.func11, Tryz.ntmps11
 go_wp2_with fail
 refine Calls.mono (HO.out _) ?_
 rintro e w1 ⟨rfl, _⟩
 go_wp2_with fail
 simp [bodyPost, results, Tryz.results11, go_sem]
 exact ⟨rfl, zaa⟩
theorem number_Sub_c [hg : Glo w] (h1 : a.length < 2 ^ 40) (h2 : b.length < 2 ^ 40) : Calls Tryz.prog 12 #[str a, str b] w (PRet w (opV (fun q r => q - r) a b)) := by
 have HO := Hid.mk (show ∀ (w : World) [Glo w], Calls _ _ _ w _ from fun w _ => zdv (w := w) opSub h1 h2)
 obtain ⟨L, E, hV⟩ := opV_form (fun q r => q - r) a b
 rw [hV] at HO ⊢
 clear h1 h2 hV
 go_enter Tryz.func12, Tryz.ntmps12
 go_wp2_with fail
 refine Calls.mono (HO.out _) ?_
 rintro e w1 ⟨rfl, _⟩
 go_wp2_with fail
 simp [bodyPost, results, Tryz.results12, go_sem]
 exact ⟨rfl, zaa⟩
theorem number_Mul_c [hg : Glo w] (h1 : a.length < 2 ^ 40) (h2 : b.length < 2 ^ 40) : Calls Tryz.prog 13 #[str a, str b] w (PRet w (opV (fun q r => q * r) a b)) := by
 have HO := Hid.mk (show ∀ (w : World) [Glo w], Calls _ _ _ w _ from fun w _ => zdv (w := w) opMul h1 h2)
 obtain ⟨L, E, hV⟩ := opV_form (fun q r => q * r) a b
 rw [hV] at HO ⊢
 clear h1 h2 hV
 go_enter Tryz.func13, Tryz.ntmps13
 go_wp2_with fail
 refine Calls.mono (HO.out _) ?_
 rintro e w1 ⟨rfl, _⟩
 go_wp2_with fail
 simp [bodyPost, results, Tryz.results13, go_sem]
 exact ⟨rfl, zaa⟩
theorem number_Div_c [hg : Glo w] (h1 : a.length < 2 ^ 40) (h2 : b.length < 2 ^ 40) : Calls Tryz.prog 14 #[str a, str b] w (PRet w (divV a b)) := by
 obtain ⟨E, hE⟩ : ∃ E, zbx a b = E := ⟨_, rfl⟩
 have HRD := Hid.mk (show ∀ w, Calls _ _ _ w _ from fun w => zdK (w := w) h1 h2)
 rw [hE] at HRD
 have HV1 := Hid.mk (show E ≠ 0 -> divV a b = .tuple #[str [], .int .i64 E] from fun h => by unfold divV; rw [hE, if_neg h])
 have HV2 := Hid.mk (show E = 0 -> (sgnI (readQ b).num == 0) = true -> divV a b = .tuple #[str [], .int .i64 6] from fun h h2 => by
  have : readQ b = 0 := Rat.num_eq_zero.1 (sgnI_z h2)
  unfold divV; rw [hE, if_pos h, if_pos this])
 have HV3 := Hid.mk (show E = 0 -> (sgnI (readQ b).num == 0) = false -> divV a b = wV (readQ a / readQ b) from fun h h2 => by
  have : readQ b ≠ 0 := fun e => by rw [e] at h2; exact absurd h2 (by decide)
  unfold divV; rw [hE, if_pos h, if_neg this])
 have sz := opDiv.size (za0 a) (za0 b)
 clear h1 h2 hE
 go_enter Tryz.func14, Tryz.ntmps14
 go_wp2_with fail
 refine Calls.mono (HRD.out _) ?_
 rintro e w1 ⟨q1, q2, rfl, i1, i2, _⟩
 go_wp2_with fail
 ·have h0 : E ≠ 0 := ne_b (by assumption)
  simp [bodyPost, results, Tryz.results14, go_sem]
  exact ⟨by rw [HV1.out h0] <;> rfl, zaa⟩
 ·have h0 : E = 0 := eq_b (by assumption)
  have i1 : RatIs w1 q1.v (readQ a) := zq_ok i1 h0
  have i2 : RatIs w1 q2.v (readQ b) := zq_ok i2 h0
  refine Calls.mono (zaT (q := readQ b)) ?_
  rintro e w2 ⟨rfl, _⟩
  go_wp2_with ((first | (go_at_call 68; refine Calls.mono (rat_Div_c (q := readQ a) (r := readQ b) (by decide)) ?_; rintro e w3 ⟨p1, rfl, _, _⟩) | (go_at_call 69; refine Calls.mono (zbj (q := readQ a / readQ b) (by decide)) ?_; rintro e w4 ⟨rfl, _⟩)))
  ·simp [bodyPost, results, Tryz.results14, go_sem]
   exact ⟨by rw [HV2.out h0 (by assumption)] <;> rfl, zaa⟩
  ·simp [bodyPost, results, Tryz.results14, go_sem]
   exact ⟨by rw [HV3.out h0 (by assumption)] <;> rfl, zaa⟩
theorem number_Order_c [hg : Glo w] (h1 : a.length < 2 ^ 40) (h2 : b.length < 2 ^ 40) : Calls Tryz.prog 15 #[str a, str b] w (PRet w (ordV a b)) := by
 obtain ⟨E, hE⟩ : ∃ E, zbx a b = E := ⟨_, rfl⟩
 have HRD := Hid.mk (show ∀ w, Calls _ _ _ w _ from fun w => zdK (w := w) h1 h2)
 rw [hE] at HRD
 have HV1 := Hid.mk (show E ≠ 0 -> ordV a b = .tuple #[.int .i64 0, .int .i64 E] from fun h => by unfold ordV; rw [hE, if_neg h])
 have HV2 := Hid.mk (show E = 0 -> ordV a b = .tuple #[.int .i64 (cmpQ (readQ a) (readQ b)), .int .i64 0] from fun h => by unfold ordV; rw [hE, if_pos h])
 clear h1 h2 hE
 go_enter Tryz.func15, Tryz.ntmps15
 go_wp2_with fail
 refine Calls.mono (HRD.out _) ?_
 rintro e w1 ⟨q1, q2, rfl, i1, i2, _⟩
 go_wp2_with fail
 ·have h0 : E ≠ 0 := ne_b (by assumption)
  go_ret2
  exact ⟨by rw [HV1.out h0] <;> rfl, zaa⟩
 ·have h0 : E = 0 := eq_b (by assumption)
  have i1 : RatIs w1 q1.v (readQ a) := zq_ok i1 h0
  have i2 : RatIs w1 q2.v (readQ b) := zq_ok i2 h0
  refine Calls.mono (zbz (q := readQ a) (r := readQ b) (by decide)) ?_
  rintro e w2 ⟨rfl, _⟩
  go_wp2_with fail
  go_ret2
  exact ⟨by rw [HV2.out h0] <;> rfl, zaa⟩
end
end
section
open Go.RowKit
theorem zft {p q : Rat} : (p - q).num < 0 ↔ p < q := by
 rw [<- Rat.not_le, Rat.le_iff_sub_nonneg q p, <- Rat.num_nonneg]
 omega
theorem cmp_sg (p q : Rat) : sgQ (p - q) = cmpQ p q := by
 unfold sgQ cmpQ cmpI
 by_cases h1 : p < q
 ·have h2 := zft.2 h1
  rw [if_pos ((Rat.lt_iff p q).1 h1), if_neg (fun e => by rw [e] at h2; exact absurd h2 (by decide)), if_pos h2]
 ·have h2 : ¬ (p - q).num < 0 := fun h => h1 (zft.1 h)
  rw [if_neg (show ¬ p.num * (q.den : Int) < q.num * (p.den : Int) from fun h => h1 ((Rat.lt_iff p q).2 h))]
  by_cases h3 : p = q
  ·subst h3
   rw [if_pos Rat.sub_self, if_pos rfl]
  ·have h4 : p - q ≠ 0 := fun e => h3 (by
    have := Rat.sub_add_cancel (a := p) (b := q)
    rw [e, Rat.zero_add] at this
    exact this.symm)
   have h5 : p.num * (q.den : Int) ≠ q.num * (p.den : Int) := fun e => h3 (Rat.le_antisymm (Rat.not_lt.1 (fun h => absurd ((Rat.lt_iff q p).1 h) (by omega))) (Rat.not_lt.1 h1))
   rw [if_neg h4, if_neg h2, if_neg h5]
theorem isZero9_c {q : Rat} {w : World} : Calls Tryz.prog 22 #[str (zad q)] w (PRet w (.bool (decide (q = 0)))) := by
 obtain ⟨s, hs⟩ : ∃ s : ByteArray, s.data.toList = zad q := ⟨⟨(zad q).toArray⟩, rfl⟩
 have hb : (s.toList == [48]) = decide (q = 0) := by
  have := bytes_eq (s := s) (l := [48])
  rw [hs] at this
  rw [this]
  exact decide_eq_decide.2 zey
 have HB := Hid.mk hb
 rw [show str (zad q) = Value.string s by rw [str_eq, hs]]
 clear hb hs
 go_enter Tryz.func22, Tryz.ntmps22
 go_wp2_with fail
 go_ret
 exact ⟨by rw [<- HB.out]; rfl, zaa⟩
end
section
open Go.RowKit Go.Sort Go.Lib
theorem opV_bad {op : Rat -> Rat -> Rat} {a b : List UInt8} {E : Int} (hE : zbx a b = E) (h : E ≠ 0) : opV op a b = .tuple #[str [], .int .i64 E] := by unfold opV; rw [hE, if_neg h]
theorem divV_bad {a b : List UInt8} {E : Int} (hE : zbx a b = E) (h : E ≠ 0) : divV a b = .tuple #[str [], .int .i64 E] := by unfold divV; rw [hE, if_neg h]
theorem ordV_bad {a b : List UInt8} {E : Int} (hE : zbx a b = E) (h : E ≠ 0) : ordV a b = .tuple #[.int .i64 0, .int .i64 E] := by unfold ordV; rw [hE, if_neg h]
theorem opV_ok {op : Rat -> Rat -> Rat} {a b : List UInt8} {p q : Rat} (hE : zbx a b = 0) (hp : readQ a = p) (hq : readQ b = q) : opV op a b = .tuple #[str (wTxt (op p q)), .int .i64 (wE (op p q))] := by unfold opV; rw [if_pos hE, hp, hq]; rfl
theorem ordV_ok {a b : List UInt8} {p q : Rat} (hE : zbx a b = 0) (hp : readQ a = p) (hq : readQ b = q) : ordV a b = .tuple #[.int .i64 (cmpQ p q), .int .i64 0] := by unfold ordV; rw [if_pos hE, hp, hq]
theorem numberSums_big (HA : Hid AwakeOk) {a b : List UInt8} {w : World} [hg : Glo w] (h : 1300 < a.length ∨ 1300 < b.length) :
  Calls Tryz.prog 3 #[.string ⟨a.toArray⟩, .string ⟨b.toArray⟩] w (fun e w' => e = .returned (.bool true) /\ Below w.heap.size w w') := by
 by_cases h1 : 1300 < a.length
 ·have h2 : decide (1300 < a.length) = true := by simpa using h1
  have h3 : decide ((1300 : Int) < (a.length : Int)) = true := by simp; omega
  clear h
  go_enter Tryz.func3, Tryz.ntmps3
  go_wp2_with fail
  refine (HA.out w).mono ?_
  rintro e w1 ⟨rfl, hb1⟩
  have hx1 : Nxt w w1 := ⟨hb1⟩
  have hg1 : Glo w1 := Glo.nxt
  clear hb1
  go_wp2_with fail
  refine (HA.out w1).mono ?_
  rintro e w2 ⟨rfl, hb2⟩
  have hx2 : Nxt w1 w2 := ⟨hb2⟩
  clear hb2
  go_wp2_with fail
  go_ret
  exact ⟨rfl, (zaa : Nxt w w2).out⟩
 ·have h2 : decide (1300 < a.length) = false := by simpa using h1
  have h3 : decide ((1300 : Int) < (a.length : Int)) = false := by simp; omega
  have h4 : decide (1300 < b.length) = true := by simp; omega
  have h5 : decide ((1300 : Int) < (b.length : Int)) = true := by simp; omega
  clear h
  go_enter Tryz.func3, Tryz.ntmps3
  go_wp2_with fail
  refine (HA.out w).mono ?_
  rintro e w1 ⟨rfl, hb1⟩
  have hx1 : Nxt w w1 := ⟨hb1⟩
  have hg1 : Glo w1 := Glo.nxt
  clear hb1
  go_wp2_with fail
  refine (HA.out w1).mono ?_
  rintro e w2 ⟨rfl, hb2⟩
  have hx2 : Nxt w1 w2 := ⟨hb2⟩
  clear hb2
  go_wp2_with fail
  go_ret
  exact ⟨rfl, (zaa : Nxt w w2).out⟩
theorem numberSums_bad (HA : Hid AwakeOk) {a b : List UInt8} {x y E : Int} {w : World} [hg : Glo w] (h1 : a.length <= 1300) (h2 : b.length <= 1300) (hx : readE a = x) (hy : readE b = y) (hE : or2 x y = E) (hE0 : E ≠ 0) :
  Calls Tryz.prog 3 #[str a, str b] w (fun e w' => e = .returned (.bool true) /\ Below w.heap.size w w') := by
 have i1 : decide (1300 < a.length) = false := by simpa using h1
 have i2 : decide ((1300 : Int) < (a.length : Int)) = false := by simp; omega
 have i3 : decide (1300 < b.length) = false := by simpa using h2
 have i4 : decide ((1300 : Int) < (b.length : Int)) = false := by simp; omega
 have hE2 : zbx a b = E := by unfold zbx; rw [hx, hy, hE]
 have HCa : Hid (∀ w, Calls _ _ _ w _) := Hid.mk (fun w => check_core (l := a) (w := w) (by omega))
 have HCb : Hid (∀ w, Calls _ _ _ w _) := Hid.mk (fun w => check_core (l := b) (w := w) (by omega))
 have HNa : Hid (∀ w, Calls _ _ _ w _) := Hid.mk (fun w => check_c (l := a) (w := w) (by omega))
 have HAdd : Hid (∀ (w : World) [Glo w], Calls _ _ _ w _) := Hid.mk (fun w _ => number_Add_c (a := a) (b := b) (w := w) (by omega) (by omega))
 have HSub : Hid (∀ (w : World) [Glo w], Calls _ _ _ w _) := Hid.mk (fun w _ => number_Sub_c (a := a) (b := b) (w := w) (by omega) (by omega))
 have HMul : Hid (∀ (w : World) [Glo w], Calls _ _ _ w _) := Hid.mk (fun w _ => number_Mul_c (a := a) (b := b) (w := w) (by omega) (by omega))
 have HDiv : Hid (∀ (w : World) [Glo w], Calls _ _ _ w _) := Hid.mk (fun w _ => number_Div_c (a := a) (b := b) (w := w) (by omega) (by omega))
 have HOrd : Hid (∀ (w : World) [Glo w], Calls _ _ _ w _) := Hid.mk (fun w _ => number_Order_c (a := a) (b := b) (w := w) (by omega) (by omega))
 rw [opV_bad hE2 hE0] at HAdd HSub HMul
 rw [divV_bad hE2 hE0] at HDiv
 rw [ordV_bad hE2 hE0] at HOrd
 rw [hx] at HCa HNa
 rw [hy] at HCb
 have HF : Hid (or2 x y = E) := Hid.mk hE
 have HE0 := Hid.mk hE0
 have k1 : (E == 0) = false := by simpa using hE0
 have k2 : (E != 0) = true := by simpa using hE0
 clear h1 h2 hx hy hE hE2 hE0
 go_enter Tryz.func3, Tryz.ntmps3
 go_wp2_with fail
 refine (HA.out w).mono ?_
 rintro e w1 ⟨rfl, hb1⟩
 have hx1 : Nxt w w1 := ⟨hb1⟩
 have hg1 : Glo w1 := Glo.nxt
 clear hb1
 go_wp2_with fail
 refine Calls.mono (HCa.out _) ?_
 rintro e w2 ⟨rfl, hx2⟩
 go_wp2_with fail
 refine Calls.mono (HCb.out _) ?_
 rintro e w3 ⟨rfl, hx3⟩
 go_wp2_with fail
 refine Calls.mono (first9_two) ?_
 rw [HF.out]
 rintro e w4 ⟨rfl, hx4⟩
 go_wp2_with fail
 refine Calls.mono (HNa.out _) ?_
 rintro e w5 ⟨rfl, hx5⟩
 go_wp2_with fail
 refine Calls.mono (HCa.out _) ?_
 rintro e w6 ⟨rfl, hx6⟩
 have hg6 : Glo w6 := Glo.nxt
 go_wp2_with fail
 refine Calls.mono (HAdd.out _) ?_
 rintro e w7 ⟨rfl, hx7⟩
 have hg7 : Glo w7 := Glo.nxt
 go_wp2_with fail
 refine Calls.mono (HSub.out _) ?_
 rintro e w8 ⟨rfl, hx8⟩
 have hg8 : Glo w8 := Glo.nxt
 go_wp2_with fail
 refine Calls.mono (HMul.out _) ?_
 rintro e w9 ⟨rfl, hx9⟩
 have hg9 : Glo w9 := Glo.nxt
 go_wp2_with fail
 refine Calls.mono (HDiv.out _) ?_
 rintro e w10 ⟨rfl, hx10⟩
 have hg10 : Glo w10 := Glo.nxt
 go_wp2_with fail
 refine Calls.mono (HOrd.out _) ?_
 rintro e w11 ⟨rfl, hx11⟩
 go_wp2_with ((first | (go_at_call 16; refine Calls.mono (num_bad (y := []) HE0.out) ?_; rintro e w12 ⟨rfl, hx12⟩) | (go_at_call 17; refine Calls.mono (integer_bad HE0.out) ?_; rintro e w12 ⟨rfl, hx12⟩)))
 go_ret
 exact ⟨rfl, (zaa : Nxt w _).out⟩
def divT (p q : Rat) : List UInt8 := if q = 0 then [] else wTxt (p / q)
def divE (p q : Rat) : Int := if q = 0 then 6 else wE (p / q)
theorem divV_any {a b : List UInt8} {p q : Rat} (hE : zbx a b = 0) (hp : readQ a = p) (hq : readQ b = q) : divV a b = .tuple #[str (divT p q), .int .i64 (divE p q)] := by
 unfold divV divT divE
 rw [if_pos hE, hp, hq]
 split <;> rfl
theorem numberSums_ok (HA : Hid AwakeOk) {p q : Rat} {w : World} [hg : Glo w] [d1 : Sz p 600] [d2 : Sz q 600] (h1 : (zad p).length <= 1300) (h2 : (zad q).length <= 1300) (hx : readE (zad p) = 0) (hy : readE (zad q) = 0)
  (hp : readQ (zad p) = p) (hq : readQ (zad q) = q) :
  Calls Tryz.prog 3 #[str (zad p), str (zad q)] w (fun e w' => e = .returned (.bool true) /\ Below w.heap.size w w') := by
 have i1 : decide (1300 < (zad p).length) = false := by simpa using h1
 have i2 : decide ((1300 : Int) < ((zad p).length : Int)) = false := by simp; omega
 have i3 : decide (1300 < (zad q).length) = false := by simpa using h2
 have i4 : decide ((1300 : Int) < ((zad q).length : Int)) = false := by simp; omega
 have hE2 : zbx (zad p) (zad q) = 0 := by unfold zbx; rw [hx, hy]; rfl
 have HCa : Hid (∀ w, Calls _ _ _ w _) := Hid.mk (fun w => check_core (l := zad p) (w := w) (by omega))
 have HCb : Hid (∀ w, Calls _ _ _ w _) := Hid.mk (fun w => check_core (l := zad q) (w := w) (by omega))
 have HNa : Hid (∀ w, Calls _ _ _ w _) := Hid.mk (fun w => check_c (l := zad p) (w := w) (by omega))
 have HAdd : Hid (∀ (w : World) [Glo w], Calls _ _ _ w _) := Hid.mk (fun w _ => number_Add_c (a := zad p) (b := zad q) (w := w) (by omega) (by omega))
 have HSub : Hid (∀ (w : World) [Glo w], Calls _ _ _ w _) := Hid.mk (fun w _ => number_Sub_c (a := zad p) (b := zad q) (w := w) (by omega) (by omega))
 have HMul : Hid (∀ (w : World) [Glo w], Calls _ _ _ w _) := Hid.mk (fun w _ => number_Mul_c (a := zad p) (b := zad q) (w := w) (by omega) (by omega))
 have HDiv : Hid (∀ (w : World) [Glo w], Calls _ _ _ w _) := Hid.mk (fun w _ => number_Div_c (a := zad p) (b := zad q) (w := w) (by omega) (by omega))
 have HOrd : Hid (∀ (w : World) [Glo w], Calls _ _ _ w _) := Hid.mk (fun w _ => number_Order_c (a := zad p) (b := zad q) (w := w) (by omega) (by omega))
 rw [opV_ok hE2 hp hq] at HAdd HSub HMul
 rw [divV_any hE2 hp hq] at HDiv
 rw [ordV_ok hE2 hp hq] at HOrd
 rw [hx] at HCa HNa
 rw [hy] at HCb
 obtain ⟨c, hc⟩ : ∃ c, cmpQ p q = c := ⟨_, rfl⟩
 rw [hc] at HOrd
 have HC : Hid (sgQ (p - q) = c) := Hid.mk (by rw [cmp_sg, hc])
 obtain ⟨L, hL⟩ : ∃ L, divT p q = L := ⟨_, rfl⟩
 obtain ⟨E, hE⟩ : ∃ E, divE p q = E := ⟨_, rfl⟩
 rw [hL, hE] at HDiv
 have HLE := Hid.mk (show divT p q = L /\ divE p q = E from ⟨hL, hE⟩)
 have s1 : Sz (p + q) 1201 := size_add (q := p) (r := q) (a := 600) (b := 600)
 have s2 : Sz (p - q) 1201 := by rw [Rat.sub_eq_add_neg]; exact size_add (q := p) (r := -q) (a := 600) (b := 600)
 have s3 : Sz (p * q) 1200 := inferInstance
 have s4 : Sz (p / q) 1801 := by rw [Rat.div_def]; have := inv_sz (q := q); exact (inferInstance : Sz (p * q⁻¹) (600 + (600 + 600 + 1)))
 clear h1 h2 hx hy hE2 hp hq hc hL hE
 go_enter Tryz.func3, Tryz.ntmps3
 go_wp2_with fail
 refine (HA.out w).mono ?_
 rintro e w1 ⟨rfl, hb1⟩
 have hx1 : Nxt w w1 := ⟨hb1⟩
 have hg1 : Glo w1 := Glo.nxt
 clear hb1
 go_wp2_with fail
 refine Calls.mono (HCa.out _) ?_
 rintro e w2 ⟨rfl, hx2⟩
 go_wp2_with fail
 refine Calls.mono (HCb.out _) ?_
 rintro e w3 ⟨rfl, hx3⟩
 go_wp2_with fail
 refine Calls.mono (first9_two) ?_
 rw [show or2 0 0 = 0 from rfl]
 rintro e w4 ⟨rfl, hx4⟩
 go_wp2_with fail
 refine Calls.mono (HNa.out _) ?_
 rintro e w5 ⟨rfl, hx5⟩
 go_wp2_with fail
 refine Calls.mono (HCa.out _) ?_
 rintro e w6 ⟨rfl, hx6⟩
 have hg6 : Glo w6 := Glo.nxt
 go_wp2_with fail
 refine Calls.mono (HAdd.out _) ?_
 rintro e w7 ⟨rfl, hx7⟩
 have hg7 : Glo w7 := Glo.nxt
 go_wp2_with fail
 refine Calls.mono (HSub.out _) ?_
 rintro e w8 ⟨rfl, hx8⟩
 have hg8 : Glo w8 := Glo.nxt
 go_wp2_with fail
 refine Calls.mono (HMul.out _) ?_
 rintro e w9 ⟨rfl, hx9⟩
 have hg9 : Glo w9 := Glo.nxt
 go_wp2_with fail
 refine Calls.mono (HDiv.out _) ?_
 rintro e w10 ⟨rfl, hx10⟩
 have hg10 : Glo w10 := Glo.nxt
 go_wp2_with fail
 refine Calls.mono (HOrd.out _) ?_
 rintro e w11 ⟨rfl, hx11⟩
 go_wp2_with fail
 refine Calls.mono (add9_c (p := p) (q := q) (a := 600) (b := 600) (by decide) (by decide)) ?_
 rintro e w12 ⟨rfl, hx12⟩
 go_wp2_with fail
 refine Calls.mono (num_ok (q := p + q) (a := 1201) (by decide)) ?_
 rintro e w13 ⟨rfl, hx13⟩
 go_wp2_with fail
 refine Calls.mono (sub9_c (p := p) (q := q) (a := 600) (b := 600) (by decide) (by decide)) ?_
 rintro e w14 ⟨rfl, hx14⟩
 go_wp2_with fail
 refine Calls.mono (num_ok (q := p - q) (a := 1201) (by decide)) ?_
 rintro e w15 ⟨rfl, hx15⟩
 go_wp2_with fail
 refine Calls.mono (mul9_c (p := p) (q := q) (a := 600) (b := 600) (by decide) (by decide)) ?_
 rintro e w16 ⟨rfl, hx16⟩
 go_wp2_with fail
 refine Calls.mono (num_ok (q := p * q) (a := 1200) (by decide)) ?_
 rintro e w17 ⟨rfl, hx17⟩
 go_wp2_with fail
 refine Calls.mono (cmp9_c (p := p) (q := q) (a := 600) (b := 600) (by decide) (by decide)) ?_
 rw [HC.out]
 rintro e w18 ⟨rfl, hx18⟩
 go_wp2_with fail
 refine Calls.mono (integer_ok (z := c)) ?_
 rintro e w19 ⟨rfl, hx19⟩
 go_wp2_with fail
 refine Calls.mono (isZero9_c (q := q)) ?_
 by_cases hz : q = 0
 ·rw [decide_eq_true hz]
  rintro e w20 ⟨rfl, hx20⟩
  obtain ⟨h1, h2⟩ := HLE.out
  unfold divT at h1; unfold divE at h2
  rw [if_pos hz] at h1 h2
  subst h1; subst h2
  clear hz
  go_wp2_with fail
  refine Calls.mono (num_bad (E := 6) (y := []) (by decide)) ?_
  rintro e w21 ⟨rfl, hx21⟩
  go_wp2_with fail
  go_ret
  exact ⟨rfl, (zaa : Nxt w _).out⟩
 ·rw [decide_eq_false hz]
  rintro e w20 ⟨rfl, hx20⟩
  obtain ⟨h1, h2⟩ := HLE.out
  unfold divT at h1; unfold divE at h2
  rw [if_neg hz] at h1 h2
  subst h1; subst h2
  have HZ := Hid.mk hz
  clear hz
  go_wp2_with fail
  refine Calls.mono (div9_c (p := p) (q := q) (a := 600) (b := 600) (by decide) (by decide) HZ.out) ?_
  rintro e w21 ⟨rfl, hx21⟩
  go_wp2_with fail
  refine Calls.mono (num_ok (q := p / q) (a := 1801) (by decide)) ?_
  rintro e w22 ⟨rfl, hx22⟩
  go_wp2_with fail
  go_ret
  exact ⟨rfl, (zaa : Nxt w _).out⟩
theorem numberSums (HA : Hid AwakeOk) (a b : List UInt8) (w : World) [hg : Glo w] :
  Calls Tryz.prog 3 #[.string ⟨a.toArray⟩, .string ⟨b.toArray⟩] w (fun e w' => e = .returned (.bool true) /\ Below w.heap.size w w') := by
 by_cases h : 1300 < a.length ∨ 1300 < b.length
 ·exact numberSums_big HA h
 ·have h1 : a.length <= 1300 := by omega
  have h2 : b.length <= 1300 := by omega
  by_cases hE : or2 (readE a) (readE b) = 0
  ·obtain ⟨hx, hy⟩ := zeT hE
   have d1 : Sz (readQ a) 600 := inferInstance
   have d2 : Sz (readQ b) 600 := inferInstance
   have e1 := read_canon hx
   have e2 := read_canon hy
   obtain ⟨p, hp⟩ : ∃ p, readQ a = p := ⟨_, rfl⟩
   obtain ⟨q, hq⟩ : ∃ q, readQ b = q := ⟨_, rfl⟩
   rw [hp] at e1 d1
   rw [hq] at e2 d2
   subst e1; subst e2
   exact numberSums_ok HA h1 h2 hx hy hp hq
  ·exact numberSums_bad HA h1 h2 rfl rfl rfl hE
end
section
open Go.ChangeShapes Go.WideShapes Go.ChangeAt Go.ChangeMaps Go.RowKit
theorem lifted_sums (os : Os) (started : os.Started) (H : Type) (enc : TypeId × Value -> H) :
  ReturnsInHanded {} Tryz.checked os 3 .any (fun w args => (Rows.numberSumsSpec.pre enc Tryz.prog Tryz.f3 [] false w args /\ laidMetH Tryz.prog laid3 w) /\ sizedMet enc Tryz.prog Tryz.f3 (OpenSpec.ofChange Rows.numberSumsSpec) false w args)
   (Rows.numberSumsSpec.post enc Tryz.prog Tryz.f3 false true false false) := by
 refine returnsInHanded_of_change_and (C := Tryz.checked) (X := fun w _ => laidMetH Tryz.prog laid3 w) (fun _ _ _ hh h => h.of_heap hh) own started (by kernel_rfl) Tryz.func3
  (ChangeSpec.witness_shaped (enc := enc) (C := Tryz.checked) (os := os) (X := fun w _ => laidMetH Tryz.prog laid3 w) false (World.doorLaid Tryz.prog 400 os) #[.string ⟨#[]⟩, .string ⟨#[]⟩] 8 rfl (World.shaped_of_RefB (by kernel_rfl) (by kernel_rfl)) (by kernel_rfl) (by kernel_rfl) (by kernel_rfl) (door_met os _)) ?_
 intro W base args ds gs before hval0 hW _ _ hL _
 have hval : ∀ (j : Nat) t v, Tryz.f3.params[j]? = some t -> args[j]? = some v -> Value.okWide Tryz.prog W .any base t v := hval0
 have hW' := hW
 obtain ⟨p, q, hA0, hV, rfl, hfz, hnd⟩ := hW
 have hA : DataW.TrodAll enc Tryz.prog W 0 (fun _ => true) true Tryz.f3.params.toList args.toList ds p := hA0
 rw [Tryz.params3] at hA hval
 obtain ⟨v0, v1, d0, d1, p0, p1, rfl, rfl, rfl, h0, h1⟩ := trodAll_two hA
 obtain ⟨rfl, rfl⟩ := trodVars_none hV
 obtain ⟨a0, rfl, rfl, rfl, w0⟩ := open_string Tryz.underlying22 (hval 0 22 v0 rfl rfl) h0
 obtain ⟨a1, rfl, rfl, rfl, w1⟩ := open_string Tryz.underlying22 (hval 1 22 v1 rfl rfl) h1
 have hg : Glo W := glo_of_laid hL
 clear hA0 hval0
 simp only [List.append_nil] at hW'
 refine (numberSums (Hid.mk awakeOk) a0.data.toList a1.data.toList W).mono fun e W' ⟨he, hb⟩ => ?_
 subst he
 exact ⟨_, rfl, _, _, _, [], [], [], hW', trodAll_mk1 (shut_bool Tryz.underlying4 _), trodAll_mk2 (shut_string Tryz.underlying22 w0) (shut_string Tryz.underlying22 w1), rfl, hb.frame _, fun h => by cases h⟩
theorem zfs : Rows.NumberSumsSaid :=
 OpenClaim.holds_of_wide 3 Tryz.f3 rfl rfl rfl rfl rfl rfl rfl ⟨rfl, rfl, rfl, rfl, rfl⟩ rfl rfl rfl rfl rfl (by kernel_rfl) Tryz.func3 (by kernel_rfl)
  (of_decide_eq_true (by kernel_rfl)) (by unfold Func.isWrapper; first | (rw [if_pos (by decide +kernel)]; kernel_rfl) | (rw [if_neg (by decide +kernel)]; exact ⟨rfl, rfl⟩))
  (fun os started H enc _ => lifted_sums os started H enc)
theorem numberSums_holds : Rows.NumberSumsCardSaid :=
 Claim7.holds_tied_plain_at .later [] [.data, .data, .data] true Rows.numberSumsCard.stood.harness false
  zfs (fun _ h => by cases h) (by kernel_rfl) (fun _ h => by cases h) numberSums_row_tie rfl ⟨rfl, rfl⟩ (by kernel_rfl) rfl
  (fun f fn hf hfn => by
   obtain rfl : f = 3 := Option.some.inj ((show Tryz.prog.funcNamed "lenslet/lensletlaw01.NumberSums" = some 3 by kernel_rfl).symm.trans hf) |>.symm
   obtain rfl : fn = Tryz.f3 := (Option.some.inj (Tryz.func3.symm.trans hfn)).symm
   exact ⟨by kernel_rfl, fun j t ht => by
    rw [Tryz.params3] at ht
    have hm : t ∈ [22, 22] := by simpa using Array.mem_of_getElem? ht
    have hall : ([22, 22].all fun u => !Tryz.prog.wantsStandIn u) = true := by kernel_rfl
    exact (show Tryz.prog.wantsStandIn t = false by simpa using List.all_eq_true.1 hall t hm)⟩)
  (by kernel_rfl)
end
end Go.Proofs.YtamnflfakogigaaGreatDoor
