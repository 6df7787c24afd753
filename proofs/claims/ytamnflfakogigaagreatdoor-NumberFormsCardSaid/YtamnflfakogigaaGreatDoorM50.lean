import Derived.Test.YtamnflfakogigaaGreatDoorM49
import Derived.Test.YtamnflfakogigaaGreatDoorM37
set_option maxHeartbeats 3200000
set_option maxRecDepth 100000
set_option linter.all false
namespace Go.Proofs.YtamnflfakogigaaGreatDoor
section
open Go.RowKit Go.Sort Go.Lib
theorem rE_zero {N D : List UInt8} {t g : Bool} (hE : rE N D t g = 0) : Form N D t g /\ (N.length <= 600 /\ D.length <= 600) /\ (t = true -> Nat.gcd (zac N) (zac D) <= 1) := by
 unfold rE at hE
 split at hE
 ·cases hE
 ·rename_i h1
  split at hE
  ·cases hE
  ·rename_i h2
   split at hE
   ·cases hE
   ·rename_i h3
    split at hE
    ·cases hE
    ·rename_i h4
     refine ⟨⟨⟨?_, ?_⟩, ?_⟩, by omega, fun ht => ?_⟩
     ·cases h : decL N
      ·exact absurd (Or.inl h) h1
      ·rfl
     ·cases hg : g
      ·exact Or.inl (by simp)
      ·refine Or.inr ?_
       cases h : (N == [48])
       ·rfl
       ·exact absurd (Or.inr ⟨hg, by simpa using h⟩) h1
     ·cases ht : t
      ·exact Or.inl (by simp)
      ·refine Or.inr ⟨?_, ?_, ?_⟩
       ·cases h : decL D
        ·exact absurd ⟨ht, Or.inl h⟩ h2
        ·rfl
       ·cases h : (D == [48])
        ·rfl
        ·exact absurd ⟨ht, Or.inr (Or.inl (by simpa using h))⟩ h2
       ·cases h : (D == [49])
        ·rfl
        ·exact absurd ⟨ht, Or.inr (Or.inr (by simpa using h))⟩ h2
     ·rcases Nat.lt_or_ge 1 (Nat.gcd (zac N) (zac D)) with h | h
      ·exact absurd ⟨ht, h⟩ h4
      ·exact h
theorem dec_canon : ∀ (k : Nat) {l : List UInt8}, l.length = k + 1 -> Digs l -> (k = 0 ∨ l[0]? ≠ some 48) -> Lib.decDigits (zac l) = l
 | 0, l, hl, hd, _ => by
  match l, hl, hd with
  | [d], _, hd =>
   have h1 := hd d (by simp)
   have h2 : zac [d] = d.toNat - 48 := by simp [zac]
   rw [h2, zbP (by omega)]
   congr 1
   apply UInt8.toNat_inj.1
   rw [UInt8.toNat_ofNat']
   omega
 | k + 1, l, hl, hd, h0 => by
  obtain ⟨i, d, rfl⟩ : ∃ i d, l = i ++ [d] := ⟨l.dropLast, l.getLast (by intro e; rw [e] at hl; simp at hl), (List.dropLast_concat_getLast _).symm⟩
  have hi : i.length = k + 1 := by simp at hl; omega
  have hdi : Digs i := fun b hb => hd b (List.mem_append_left _ hb)
  have h1 := hd d (by simp)
  have h48 : i[0]? ≠ some 48 := by
   rcases h0 with h | h
   ·omega
   ·rwa [List.getElem?_append_left (by omega)] at h
  have ih := dec_canon k hi hdi (Or.inr h48)
  have hne : zac i ≠ 0 := fun e => by
   rw [e] at ih
   have : Lib.decDigits 0 = [48] := by rw [zbP (by omega)]; rfl
   rw [this] at ih
   rw [<- ih] at h48
   exact h48 rfl
  rw [zcL, zdj (by omega), show (10 * zac i + (d.toNat - 48)) / 10 = zac i by omega, ih, show (10 * zac i + (d.toNat - 48)) % 10 = d.toNat - 48 by omega]
  congr 2
  apply UInt8.toNat_inj.1
  rw [UInt8.toNat_ofNat']
  omega
theorem zer {l : List UInt8} (h : decL l = true) : Lib.decDigits (zac l) = l := by
 have hd := zbB h
 cases l with
 | nil => cases h
 | cons c t =>
  refine dec_canon t.length (by simp) hd ?_
  cases t with
  | nil => exact Or.inl rfl
  | cons e t =>
   refine Or.inr (fun hc => ?_)
   rw [zd0 hc (by simp)] at h
   cases h
theorem frac_pieces (l : List UInt8) : l = fracL (rNeg l) (rNum l) (rDen l) (rCut l) := by
 obtain ⟨P, hP⟩ : ∃ P, Lib.trimPrefix l [45] = P := ⟨_, rfl⟩
 have h1 : P = rNum l ++ (if rCut l then 47 :: rDen l else []) := by
  unfold rNum rDen rCut
  rw [hP, cut_slash]
  split
  ·rename_i h
   exact zdt h
  ·simp
 have h2 : l = (if rNeg l then 45 :: P else P) := by
  rw [<- hP]
  unfold rNeg Lib.trimPrefix
  cases l with
  | nil => rfl
  | cons c t =>
   by_cases hc : c = 45
   ·subst hc; simp [Lib.hasPrefix]
   ·have : Lib.hasPrefix (c :: t) [45] = false := by
     cases h : Lib.hasPrefix (c :: t) [45]
     ·rfl
     ·exfalso
      unfold Lib.hasPrefix at h
      simp at h
      first | exact hc h | exact hc h.symm
    rw [this]
    rfl
 have h3 : fracL (rNeg l) (rNum l) (rDen l) (rCut l) = (if rNeg l then 45 :: P else P) := by
  unfold fracL
  rw [h1]
  cases rNeg l <;> rfl
 exact h2.trans h3.symm
theorem read_canon {l : List UInt8} (hE : readE l = 0) : zad (readQ l) = l := by
 have hp := frac_pieces l
 unfold readE at hE
 rw [show readQ l = rQ (rNum l) (rDen l) (rCut l) (rNeg l) from rfl]
 generalize rNum l = N at *
 generalize rDen l = D at *
 generalize rCut l = t at *
 generalize rNeg l = g at *
 obtain ⟨hF, hL, hG⟩ := rE_zero hE
 have hN := zer hF.1.1
 have hsg : decide (sgn g (zac N) < 0) = g := by
  cases g
  ·simp [sgn]
  ·have : zac N ≠ 0 := zdZ hF.1.1 (by
    rcases hF.1.2 with h | h
    ·exact absurd rfl h
    ·simpa using h)
   simp [sgn]; omega
 have hab : (sgn g (zac N)).natAbs = zac N := by rw [zaq]
 rw [zbk]
 by_cases ht : t = true
 ·obtain ⟨_, h1, h2⟩ := rQ_parts hF hL ht (hG ht)
  have hD : decL D = true /\ (D == [48]) = false /\ (D == [49]) = false := by
   rcases hF.2 with h | h
   ·exact absurd ht h
   ·exact h
  have hD1 : zac D ≠ 1 := fun e => by
   have := zer hD.1
   rw [e] at this
   rw [<- this] at hD
   exact absurd hD.2.2 (by decide +kernel)
  rw [h1, h2, hsg, hab, hN, zer hD.1, decide_eq_true hD1, hp, ht]
 ·have ht' : t = false := by simpa using ht
  rw [rQ_int hE ht, Rat.num_intCast, Rat.den_intCast, hsg, hab, hN, hp, ht']
  rfl
end
section
open Go.RowKit
theorem first9_c {g c n : Nat} {t : TypeId} {es : List Int} {vs : Array Value} {w : World} [hb : Blk w g t vs] (hv : vs = (es.map (Value.int .i64)).toArray) (hl : es.length = n) (hn : n < 2 ^ 40) :
  Calls Tryz.prog 8 #[.slice (some ⟨g, 0, none⟩) n c] w (PRet w (.int .i64 (zay es))) := by
 have hc : ∀ (i : Nat) (x : Int), es[i]? = some x -> w.cell? ⟨g, i, none⟩ = some (.int .i64 x) := by
  intro i x hx
  rw [Blk.cell (vs := vs), hv]
  simp [hx]
 have HC := Hid.mk hc; have HN := Hid.mk hn; have HL := Hid.mk hl
 clear hc hn hl hv hb
 go_enter Tryz.func8, Tryz.ntmps8
 go_wp2_with fail
 go_loopw [3] (fun s7 wr => ∃ i : Nat, s7 = .int .i64 (i : Int) /\ i <= n /\ (∀ (j : Nat) (y : Int), j < i -> es[j]? = some y -> y = 0) /\ ∃ m, wr = w.drewN m) (fun s7 _ => n - (intOf s7).toNat)
 case atStart => exact ⟨0, rfl, Nat.zero_le _, fun _ _ h => absurd h (by omega), 0, rfl⟩
 case round =>
  obtain ⟨i, rfl, hi, hok, m, rfl⟩ := hrel
  have HO := Hid.mk hok
  clear hok
  by_cases hin : i < n
  ·have hlt : decide ((i : Int) < (n : Int)) = true := by simp; omega
   have hlt' : (i : Int) < (n : Int) := by omega
   have hadd : IntKind.i64.wrap ((i : Int) + 1) = ((i + 1 : Nat) : Int) := by have := HN.out; rw [IntKind.wrap_i64]; omega
   obtain ⟨x, hx⟩ : ∃ x, es[i]? = some x := ⟨es[i]'(by rw [HL.out]; exact hin), List.getElem?_eq_getElem _⟩
   have k3 : (w.drewN m).cell? ⟨g, i, none⟩ = some (.int .i64 x) := HC.out i x hx
   have HX := Hid.mk hx
   clear hx
   by_cases hxy : x = 0
   ·subst hxy
    go_wp2_with fail
    go_roundw
    case rel => exact ⟨i + 1, rfl, hin, fun j y hj hy => by
     rcases Nat.lt_or_ge j i with h | h
     ·exact HO.out j y h hy
     ·obtain rfl : j = i := by omega
      rw [HX.out] at hy; exact (Option.some.inj hy).symm, _, rfl⟩
    case measure => simp [intOf]; omega
   ·have hnx : (x != 0) = true := by simpa using hxy
    go_wp2_with fail
    go_ret
    exact ⟨by rw [zcK HO.out HX.out hxy]; rfl, zaa⟩
  ·have hlt : decide ((i : Int) < (n : Int)) = false := by simp; omega
   have hlt' : ¬ (i : Int) < (n : Int) := by omega
   go_wp2_with fail
   go_ret
   exact ⟨by rw [zcd (fun e he => by
    obtain ⟨j, hj, rfl⟩ := List.getElem_of_mem he
    exact HO.out j _ (by have := HL.out; omega) (List.getElem?_eq_getElem hj))]; rfl, zaa⟩
theorem first9_two {g c : Nat} {t : TypeId} {x y : Int} {w : World} [hb : Blk w g t #[.int .i64 x, .int .i64 y]] :
  Calls Tryz.prog 8 #[.slice (some ⟨g, 0, none⟩) 2 c] w (PRet w (.int .i64 (or2 x y))) := by
 have h := first9_c (g := g) (c := c) (n := 2) (es := [x, y]) (w := w) rfl rfl (by omega)
 rw [show zay [x, y] = or2 x y by
  unfold or2 zay zay zay
  split
  ·split <;> simp_all
  ·rfl] at h
 exact h
section
variable {w : World}
theorem num_bad {E : Int} {y : List UInt8} (h : E ≠ 0) : Calls Tryz.prog 16 #[str [], .int .i64 E, .int .i64 E, str y] w (PRet w (.bool true)) := by
 have hb : (E == 0) = false := by simpa using h
 have hb2 : (E != 0) = true := by simpa using h
 go_enter Tryz.func16, Tryz.ntmps16
 go_wp2_with fail
 go_ret
 exact ⟨rfl, zaa⟩
theorem num_ok {q : Rat} {a : Nat} [d : Sz q a] (ha : a <= 2 ^ 15) : Calls Tryz.prog 16 #[str (wTxt q), .int .i64 (wE q), .int .i64 0, str (zad q)] w (PRet w (.bool true)) := by
 have HL : Hid (∀ w, Calls _ _ _ w _) := Hid.mk (fun w => large9_c (q := q) (w := w) ha)
 by_cases hf : Fits q
 ·rw [show wTxt q = zad q from if_pos hf, show wE q = 0 from if_pos hf]
  rw [show largeV q = 0 from if_pos hf] at HL
  generalize zad q = L at *
  clear hf ha
  go_enter Tryz.func16, Tryz.ntmps16
  go_wp2_with fail
  refine Calls.mono (HL.out _) ?_
  rintro e w1 ⟨rfl, hx1⟩
  go_wp2_with fail
  go_ret
  exact ⟨rfl, zaa⟩
 ·rw [show wTxt q = [] from if_neg hf, show wE q = 4 from if_neg hf]
  rw [show largeV q = 4 from if_neg hf] at HL
  generalize zad q = L at *
  clear hf ha
  go_enter Tryz.func16, Tryz.ntmps16
  go_wp2_with fail
  refine Calls.mono (HL.out _) ?_
  rintro e w1 ⟨rfl, hx1⟩
  go_wp2_with fail
  go_ret
  exact ⟨rfl, zaa⟩
theorem integer_bad {E z : Int} (h : E ≠ 0) : Calls Tryz.prog 17 #[.int .i64 0, .int .i64 E, .int .i64 E, .int .i64 z] w (PRet w (.bool true)) := by
 have hb : (E == 0) = false := by simpa using h
 have hb2 : (E != 0) = true := by simpa using h
 go_enter Tryz.func17, Tryz.ntmps17
 go_wp2_with fail
 go_ret
 exact ⟨rfl, zaa⟩
theorem integer_ok {z : Int} : Calls Tryz.prog 17 #[.int .i64 z, .int .i64 0, .int .i64 0, .int .i64 z] w (PRet w (.bool true)) := by
 go_enter Tryz.func17, Tryz.ntmps17
 go_wp2_with fail
 go_ret
 exact ⟨rfl, zaa⟩
end
end
end Go.Proofs.YtamnflfakogigaaGreatDoor
