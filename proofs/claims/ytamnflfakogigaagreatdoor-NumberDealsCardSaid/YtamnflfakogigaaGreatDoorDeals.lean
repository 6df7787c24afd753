/-
  NumberDeals: a permutation contains each element once, and its last element is the one that the first step puts there.
-/
import Derived.Test.YtamnflfakogigaaGreatDoorOrder
import Derived.Deep.LoopGhost
set_option linter.all false
namespace Go.Proofs.YtamnflfakogigaaGreatDoor
open Go.RowKit

theorem drew_cell {w w' : World} (h : Drew w w') (a : Addr) : w'.cell? a = w.cell? a := by
  obtain ⟨m, rfl⟩ := h
  rfl
set_option maxRecDepth 100000 in
set_option maxHeartbeats 6400000 in
theorem isOrder_c {A : Option Addr} {c n : Nat} {l : List Int} {w : World} (h : IAt w A l) (hp : IsPerm n l) (hn : n ≤ 2 ^ 20) :
    Calls Tryz.prog 34 #[.slice A n c] w (fun e w' => e = .returned (.bool true) ∧ Drew w w') := by
  have H := Hid.mk h; have HP := Hid.mk hp; have HN := Hid.mk hn
  clear h hp hn
  go_enter Tryz.func34, Tryz.ntmps34
  go_wp2_with fail
  go_loopg [3] n (fun gk s3 wr => ∃ i : Nat, i ≤ n ∧ gk = n - i ∧ s3 = .int .i64 (i : Int) ∧ Drew w wr)
  case atStart => exact ⟨0, Nat.zero_le _, rfl, rfl, Drew.refl _⟩
  case round =>
    obtain ⟨i, hi, rfl, rfl, hd⟩ := hrel
    have HD := Hid.mk hd
    clear hd
    by_cases hin : i < n
    · have hlt : decide ((i : Int) < (n : Int)) = true := by simp; omega
      have hlt' : (i : Int) < (n : Int) := by omega
      have hadd : IntKind.i64.wrap ((i : Int) + 1) = ((i + 1 : Nat) : Int) := by have := HN.out; rw [IntKind.wrap_i64]; omega
      obtain ⟨x, hx⟩ : ∃ x, l[i]? = some x := ⟨l[i]'(by rw [HP.out.len]; exact hin), List.getElem?_eq_getElem _⟩
      obtain ⟨ad, rfl, hc⟩ := H.out i x hx
      have hc' : wr.cell? (ad.add i) = some (.int .i64 x) := by rw [drew_cell HD.out]; exact hc
      have hr := HP.out.rng i x hx
      have hx0 : decide (x < (0 : Int)) = false := by simp; omega
      have hxn : decide ((n : Int) ≤ x) = false := by simp; omega
      have HX := Hid.mk hx; have HC := Hid.mk hc
      clear hx hr hc
      go_wp2_with fail
      clear hx0 hxn hc'
      obtain ⟨wo, hwo⟩ : ∃ wo, wo = wr := ⟨_, rfl⟩
      subst hwo
      go_loopg [4] i (fun gk s4 wi => ∃ k : Nat, k ≤ i ∧ gk = i - k ∧ s4 = .int .i64 (k : Int) ∧ Drew w wi)
      case atStart => exact ⟨0, Nat.zero_le _, rfl, rfl, HD.out⟩
      case round =>
        obtain ⟨k, hk, rfl, rfl, hd⟩ := hrel
        have HD2 := Hid.mk hd
        clear hd
        by_cases hki : k < i
        · have hlt2 : decide ((k : Int) < (i : Int)) = true := by simp; omega
          have hltn : (k : Int) < (n : Int) := by omega
          have hadd2 : IntKind.i64.wrap ((k : Int) + 1) = ((k + 1 : Nat) : Int) := by have := HN.out; rw [IntKind.wrap_i64]; omega
          obtain ⟨y, hy⟩ : ∃ y, l[k]? = some y := ⟨l[k]'(by rw [HP.out.len]; omega), List.getElem?_eq_getElem _⟩
          have hne : (y == x) = false := by
            simp
            rintro rfl
            have := HP.out.inj k i y hy HX.out
            omega
          have k1 : wr.cell? (ad.add k) = some (.int .i64 y) := by
            obtain ⟨ad2, e, hc⟩ := H.out k y hy
            injection e with e
            subst e
            rw [drew_cell HD2.out]; exact hc
          have k2 : wr.cell? (ad.add i) = some (.int .i64 x) := by rw [drew_cell HD2.out]; exact HC.out
          clear hy
          go_wp2_with fail
          go_quiet (fail)
          go_wp2_with fail
          go_roundg (i - (k + 1))
          case rel => exact ⟨k + 1, by omega, rfl, rfl, HD2.out.more _⟩
          case measure => omega
        · have hlt2 : decide ((k : Int) < (i : Int)) = false := by simp; omega
          go_wp2_with fail
          go_roundg (n - (i + 1))
          case rel => exact ⟨i + 1, by omega, rfl, rfl, HD2.out⟩
          case measure => omega
    · have hlt : decide ((i : Int) < (n : Int)) = false := by simp; omega
      go_wp2_with fail
      go_ret
      exact ⟨rfl, HD.out⟩
set_option maxRecDepth 100000 in
set_option maxHeartbeats 6400000 in
theorem numberDeals (HA : Hid AwakeOk) (key n : Int) (w : World) [hg : Glo w] :
    Calls Tryz.prog 6 #[.int .i64 key, .int .i64 n] w (fun e w' => e = .returned (.bool true) ∧ Below w.heap.size w w') := by
  cases h4 : decide ((40 : Int) < n)
  case true =>
    go_enter Tryz.func6, Tryz.ntmps6
    go_wp2_with fail
    refine (HA.out w).mono ?_
    rintro e w1 ⟨rfl, hb1⟩
    have HB1 := Hid.mk hb1
    have hx1 : Nxt w w1 := ⟨hb1⟩
    have hg1 : Glo w1 := Glo.nxt
    clear hb1
    go_wp2_with fail
    refine (HA.out w1).mono ?_
    rintro e w2 ⟨rfl, hb2⟩
    have hx2 : Nxt w1 w2 := ⟨hb2⟩
    go_wp2_with fail
    go_ret
    exact ⟨rfl, (nxt_of : Nxt w w2).out⟩
  case false =>
    cases hk : drawOk key n
    case false =>
      go_enter Tryz.func6, Tryz.ntmps6
      go_wp2_with fail
      refine (HA.out w).mono ?_
      rintro e w1 ⟨rfl, hb1⟩
      have hx1 : Nxt w w1 := ⟨hb1⟩
      have hg1 : Glo w1 := Glo.nxt
      go_wp2_with fail
      refine (checkDraw_any key n w1).mono ?_
      rintro e w3 ⟨rfl, rfl⟩
      rw [hk]
      go_wp2_with fail
      refine (HA.out w1).mono ?_
      rintro e w2 ⟨rfl, hb2⟩
      have hx2 : Nxt w1 w2 := ⟨hb2⟩
      go_wp2_with fail
      go_ret
      exact ⟨rfl, (nxt_of : Nxt w w2).out⟩
    case true =>
      have hv : 1 ≤ key ∧ key < 2147483647 ∧ 0 ≤ n ∧ n ≤ 256 := by
        unfold drawOk at hk
        simp at hk
        omega
      obtain ⟨k, rfl⟩ : ∃ k : Nat, key = (k : Int) := ⟨key.toNat, by omega⟩
      obtain ⟨m, rfl⟩ : ∃ m : Nat, n = (m : Int) := ⟨n.toNat, by omega⟩
      have HV : Hid (1 ≤ k ∧ k < 2147483647 ∧ m ≤ 256) := Hid.mk (by omega)
      clear hv
      obtain ⟨y, hy⟩ : ∃ y, lcg k = y := ⟨_, rfl⟩
      have hyl : y < 2147483647 := by rw [← hy]; exact Nat.mod_lt _ (by omega)
      have m1 : IntKind.i64.wrap (39373 * (k : Int)) = 39373 * (k : Int) := by have := HV.out; rw [IntKind.wrap_i64]; omega
      have m2 : Int.tmod (39373 * (k : Int)) 2147483647 = (y : Int) := by
        rw [Int.tmod_eq_emod_of_nonneg (by omega), ← hy]; unfold lcg; omega
      have m2' : (39373 * (k : Int)) % 2147483647 = (y : Int) := by rw [← hy]; unfold lcg; omega
      have m7 : IntKind.i64.wrap (y : Int) = (y : Int) := by rw [IntKind.wrap_i64]; omega
      have HY := Hid.mk hy; have HYL := Hid.mk hyl
      clear hy hyl
      have H40 := Hid.mk h4; have HKK := Hid.mk hk
      go_enter Tryz.func6, Tryz.ntmps6
      go_wp2_with fail
      refine (HA.out w).mono ?_
      rintro e w1 ⟨rfl, hb1⟩
      have hx1 : Nxt w w1 := ⟨hb1⟩
      have hg1 : Glo w1 := Glo.nxt
      clear hb1
      go_wp2_with fail
      refine (checkDraw_any k m w1).mono ?_
      rintro e w3 ⟨rfl, rfl⟩
      rw [hk]
      go_wp2_with fail
      refine (draw_any k m HV.out.1 HV.out.2.1 HV.out.2.2 w1).mono ?_
      rintro e w2 ⟨rfl, hr2, hx2⟩
      have HR2 := Hid.mk hr2
      clear hr2
      go_wp2_with fail
      refine (isOrder_c (iAt_row HR2.out) (drawList_perm k m) (by have := HV.out; omega)).mono ?_
      rintro e w4 ⟨rfl, hd⟩
      have hx4 : Nxt w2 w4 := ⟨hd.below _⟩
      have hc4 := drew_cell hd
      have HD := Hid.mk hd
      clear hd
      by_cases h2 : m < 2
      · have g2 : decide ((m : Int) < 2) = true := by simp; omega
        go_wp2_with fail
        all_goals first | go_quiet (fail) | skip
        all_goals go_wp2_with fail
        all_goals go_ret
        all_goals exact ⟨rfl, (nxt_of : Nxt w _).out⟩
      · have g2 : decide ((m : Int) < 2) = false := by simp; omega
        obtain ⟨o, ho⟩ : ∃ o, y % m = o := ⟨_, rfl⟩
        obtain ⟨p, hp⟩ : ∃ p, m = p + 1 := ⟨m - 1, by omega⟩
        have m3 : IntKind.i64.wrap ((m : Int) - 1) = (p : Int) := by have := HV.out; rw [IntKind.wrap_i64]; omega
        have m4 : Int.tmod (y : Int) (m : Int) = (o : Int) := by
          rw [Int.tmod_eq_emod_of_nonneg (by omega), ← ho, Int.natCast_emod]
        have m4' : (y : Int) % (m : Int) = (o : Int) := by rw [← ho, Int.natCast_emod]
        have m5 : ((m : Int) == 0) = false := by simp; omega
        have m8 : IntKind.i64.wrap (o : Int) = (o : Int) := by
          have := HYL.out
          have : o ≤ y := by rw [← ho]; exact Nat.mod_le _ _
          rw [IntKind.wrap_i64]; omega
        have hl := drawList_last (key := k) (n := m) (by omega)
        rw [HY.out, ho, show m - 1 = p by omega] at hl
        have c4 : w4.cell? ⟨w1.heap.size, p, none⟩ = some (.int .i64 (o : Int)) := by rw [hc4]; exact irow_cell HR2.out hl
        have b1 : (p : Int) < (m : Int) := by omega
        clear hl hc4 hp ho
        go_wp2_with fail
        all_goals first | go_quiet (fail) | skip
        all_goals go_wp2_with fail
        all_goals go_ret
        all_goals exact ⟨rfl, (nxt_of : Nxt w _).out⟩
end Go.Proofs.YtamnflfakogigaaGreatDoor
