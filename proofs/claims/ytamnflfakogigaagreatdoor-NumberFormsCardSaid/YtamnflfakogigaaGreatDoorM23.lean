import Derived.Test.YtamnflfakogigaaGreatDoorM21
import Derived.Test.YtamnflfakogigaaGreatDoorM22
set_option maxHeartbeats 6400000
set_option maxRecDepth 100000
set_option synthInstance.maxSize 20000
set_option linter.all false
namespace Go.Proofs.YtamnflfakogigaaGreatDoor
section
open Go.RowKit
theorem wholeAt_c {v1 : Value} {q : Rat} {M : Int} {g a : Nat} {s : IV} {w : World} [h1 : RatIs w v1 q] [d1 : Sz q 600] [hb : Blk w g 93 #[.bool s.b, s.m.v]] [hM : IntIs w s.v M] [dM : Wd M a] (ha : a <= 2 ^ 20) :
  Calls Tryz.prog 182 #[v1, .pointer (some ⟨g, 0, none⟩)] w (IRet w (q.num * flr M (q.den : Int))) := by
 obtain ⟨s1, rfl, _, n1, k1, HE1⟩ := h1.form
 have HA := Hid.mk ha
 have nz : NZ (q.den : Int) := ⟨by have := q.den_nz; omega⟩
 have dF : Wd (flr M (q.den : Int)) (a + 1) := ⟨by
  have hd : 0 < (q.den : Int) := by have := q.den_nz; omega
  rw [zeo hd]
  exact Nat.le_trans (zar (Int.natAbs_ediv_le_natAbs _ _)) (Nat.le_trans dM.out (Nat.le_succ _))⟩
 clear ha
 go_enter Tryz.func182, Tryz.ntmps182
 go_wp2_with fail
 (refine Code.nameW ?_; intro W hW; go_region_held3 (fun w' => ButO W [w.heap.size + 1] w') (exact zab) ((first | (go_at_call 165; refine Calls.mono (zby) ?_; rintro e w1 ⟨s1, rfl, _, _⟩) | (go_at_call 146; refine Calls.mono (zak) ?_; rintro e w1 ⟨s1, rfl, _, _⟩) | (go_at_call 147; refine Calls.mono (zfG (x := M) (y := (q.den : Int)) (by have := HA.out; unfold MaxW; omega) nz.out) ?_; rintro e w1 ⟨s1, rfl, _, _⟩) | (go_at_call 148; refine Calls.mono (zah (x := q.num) (y := flr M (q.den : Int)) (by have := HA.out; unfold MaxW; omega)) ?_; rintro e w1 ⟨s1, rfl, _, _⟩))))
 all_goals go_wp2_with fail
 all_goals (simp [bodyPost, results, Tryz.results182, go_sem])
 all_goals exact ⟨_, rfl, inferInstance, zaa⟩
end
end Go.Proofs.YtamnflfakogigaaGreatDoor
