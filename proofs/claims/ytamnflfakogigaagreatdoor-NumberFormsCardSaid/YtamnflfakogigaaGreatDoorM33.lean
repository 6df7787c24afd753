import Derived.Test.YtamnflfakogigaaGreatDoorM32
set_option maxHeartbeats 3200000
set_option maxRecDepth 100000
set_option synthInstance.maxSize 1024
set_option linter.all false
namespace Go.Proofs.YtamnflfakogigaaGreatDoor
section
open Go.RowKit Go.Sort Go.Lib
theorem zcD {b : Int} (hb0 : 0 <= b) (hb : b <= 2 ^ 62) (i : Nat) : Wd (b ^ i) (i + 1) := ⟨by
 apply zaf
 rw [Int.natAbs_pow]
 have h1 : b.natAbs ^ i <= (2 ^ 62) ^ i := Nat.pow_le_pow_left (by omega) i
 have h2 : (2 ^ 62) ^ i <= B64 ^ i := Nat.pow_le_pow_left (by unfold B64; omega) i
 have h3 : B64 ^ i < B64 ^ (i + 1) := Nat.pow_lt_pow_right (by unfold B64; omega) (Nat.lt_succ_self i)
 omega⟩
theorem zdN {b : Int} {k : Nat} {w : World} (hb0 : 0 <= b) (hb : b <= 2 ^ 62) (hk : k <= 2 ^ 30) :
  Calls Tryz.prog 168 #[.int .i64 b, .int .i64 (k : Int)] w (IRet w (b ^ k)) :=
 power_c (k := k + 1) (by omega) (by omega) (by omega) (by unfold MaxW; omega) (Hid.mk fun i hi => Nat.le_trans (zcD hb0 hb i).out (by omega))
instance sz_divInt {x y : Int} {a b : Nat} [h1 : Wd x a] [h2 : Wd y b] : Sz (Rat.divInt x y) (a + b + 1) := by
 by_cases hy : y = 0
 ·rw [hy, Rat.divInt_zero]
  exact ⟨by rw [show (0 : Rat).num = 0 from rfl]; simp [zbE], by rw [show (0 : Rat).den = 1 from rfl, za1]; omega⟩
 ·obtain ⟨p1, p2⟩ := zc1 (x := x) hy
  constructor
  ·rw [p1, zaq]
   refine Nat.le_trans (zar (Nat.div_le_self _ _)) ?_
   have := h1.out; omega
  ·rw [p2]
   refine Nat.le_trans (zar (Nat.div_le_self _ _)) ?_
   have := h2.out; omega
def stepI (n : Int) (k : Nat) : Rat × Rat := (Rat.divInt n ((10 : Int) ^ k), Rat.divInt (n + 1) ((10 : Int) ^ k))
instance wd_pow10i {k : Nat} : Wd ((10 : Int) ^ k) (k + 1) := zcD (by decide) (by decide) k
instance wd_pow100i {k : Nat} : Wd ((100 : Int) ^ k) (k + 1) := zcD (by decide) (by decide) k
instance wd_one : Wd (1 : Int) 1 := ⟨by show wl 1 <= 1; rw [za1]; exact Nat.le_refl 1⟩
section
variable {w : World} {v : Value} {n : Int} {a k : Nat}
theorem zcf [h1 : IntIs w v n] [d1 : Wd n a] (ha : a <= 2 ^ 30) (hk : k <= 2 ^ 20) : Calls Tryz.prog 169 #[v, .int .i64 (k : Int)] w (VRet w (stepI n k)) := by
 obtain ⟨s, rfl, _, _⟩ := h1.form
 have HK := Hid.mk hk; have HA := Hid.mk ha
 have HS := Hid.mk (show stepI n k = (Rat.divInt n ((10 : Int) ^ k), Rat.divInt (n + 1) ((10 : Int) ^ k)) from rfl)
 have HM : a + a + 99 <= MaxW := by unfold MaxW; omega
 clear ha hk
 go_enter Tryz.func169, Tryz.ntmps169
 go_wp2_with fail
 refine Calls.mono (zdN (b := 10) (by decide) (by decide) (by have := HK.out; omega)) ?_
 rintro e w1 ⟨s2, rfl, _, _⟩
 go_upto_region 2 with fail
 go_cut [6] (fun t6 wx => ∃ (g6 : Nat) (s6 : IV), t6 = .pointer (some ⟨g6, 0, none⟩) /\ Blk wx g6 93 #[.bool s6.b, s6.m.v] /\
  Blk wx w.heap.size 93 #[.bool s.b, s.m.v] /\ Blk wx w1.heap.size 93 #[.bool s2.b, s2.m.v] /\
  Blk wx (w.heap.size + 1) 122 #[.bool false, .slice none 0 0, .slice none 0 0, .bool false, .slice none 0 0, .slice none 0 0] /\
  IntIs wx s6.v (n + 1) /\ IntIs wx s2.v ((10 : Int) ^ k) /\ Ge g6 w /\ Apart (w.heap.size + 1) g6 /\ Nxt w wx)
 case first =>
  (refine Code.nameW ?_; intro W hW; go_region_held3 (fun w' => ButO W [] w') (exact zab) ((first | (go_at_call 80; refine Calls.mono (zaD (n := 1) (by omega) (by omega)) ?_; rintro e w1 ⟨s1, rfl, _, _⟩) | (go_at_call 145; refine Calls.mono (zbm (by omega)) ?_; rintro e w1 ⟨s1, rfl, _, _⟩))))
  all_goals go_wp2_with fail
  all_goals go_meet
  all_goals exact ⟨_, _, rfl, inferInstance, inferInstance, inferInstance, inferInstance, inferInstance, inferInstance, ge_of3, inferInstance, zaa⟩
 case rest =>
  obtain ⟨g6, s6, rfl, _, _, _, _, _, _, _, hap, _⟩ := hcut
  have hap2 : Apart g6 (w.heap.size + 1) := ⟨fun e => hap.out e.symm⟩
  have : NotIn g6 [w.heap.size + 1] := inferInstance
  go_wp2_with fail
  (refine Code.nameW ?_; intro W hW; go_region_held3 (fun w' => ButO W [w.heap.size + 1] w') (exact zab) ((first | (go_at_call 79; refine Calls.mono (zcg (by have := HA.out; have := HK.out; omega)) ?_; rintro e w1 ⟨q1, rfl, _, _⟩))))
  all_goals go_wp2_with fail
  all_goals simp [bodyPost, results, Tryz.results169, go_sem]
  all_goals exact ⟨_, _, rfl, by rw [HS.out]; infer_instance, by rw [HS.out]; infer_instance, zaa⟩
def rootI (x : Rat) (rn rd r k : Nat) : Rat × Rat :=
 if (rn : Int) * rn = x.num /\ (rd : Int) * rd = x.den then (Rat.divInt rn rd, Rat.divInt rn rd) else stepI r k
theorem root_unique {a r s : Nat} (h1 : zb5 a r) (h2 : zb5 a s) : r = s := by
 rcases Nat.lt_trichotomy r s with h | h | h
 ·have := Nat.mul_le_mul (show r + 1 <= s from h) (show r + 1 <= s from h)
  have := h1.2; have := h2.1; omega
 ·exact h
 ·have := Nat.mul_le_mul (show s + 1 <= r from h) (show s + 1 <= r from h)
  have := h2.2; have := h1.1; omega
theorem zen {v1 : Value} {x : Int} {a r : Nat} {w : World} [h1 : IntIs w v1 x] [d1 : Wd x a] (hx0 : 0 <= x) (hl : a <= 2 ^ 32) (hr : zb5 x.natAbs r) : Calls Tryz.prog 166 #[v1] w (IRet w (r : Int)) := by
 refine Calls.mono (int_Root_c hx0 hl) ?_
 rintro e w' ⟨s, hs, h⟩
 rw [root_unique hr hs]; exact h
theorem zd7 {n r : Nat} {a : Nat} (h : zb5 n r) (hn : wl n <= a) : Wd (r : Int) a := ⟨by
 refine Nat.le_trans (zar ?_) hn
 have := h.1
 show r <= n
 rcases Nat.eq_zero_or_pos r with h0 | h0
 ·omega
 ·have := Nat.mul_le_mul h0 (Nat.le_refl r); omega⟩
theorem zfX {x y : Int} : cmpI x y = 0 ↔ x = y := by
 unfold cmpI
 split
 ·constructor
  ·intro h; cases h
  ·intro h; omega
 ·split
  ·rename_i h; simp [h]
  ·rename_i h
   constructor
   ·intro h2; cases h2
   ·intro h2; exact absurd h2 h
end
end
end Go.Proofs.YtamnflfakogigaaGreatDoor
