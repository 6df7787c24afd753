/-
  NumberForms: for every text, every two integers and every number's text (texts of at most 1300 bytes, integers of at most nine digits, else the law only asks for the examples) the law returns true: IsName, Of and Floor answer as the reference does, or with the first error; the arguments read behind the call as before. Conditions: those of the given card alone (the three listed tables of the library hold what the program's text lays).
-/
import Derived.Test.YtamnflfakogigaaGreatDoorM50
import Derived.Test.YtamnflfakogigaaGreatDoorCardBase
import Derived.Test.YtamnflfakogigaaGreatDoorCards
import Derived.Test.YtamnflfakogigaaGreatDoorTie
set_option maxHeartbeats 12800000
set_option maxRecDepth 100000
set_option synthInstance.maxSize 20000
set_option linter.all false
namespace Go.Proofs.YtamnflfakogigaaGreatDoor
section
open Go.RowKit
def OkAt (i x : Nat) : Prop := (97 <= x /\ x <= 122) ∨ (65 <= x /\ x <= 90) ∨ (i ≠ 0 /\ ((48 <= x /\ x <= 57) ∨ x = 95))
instance (i x : Nat) : Decidable (OkAt i x) := by unfold OkAt; infer_instance
def nameP (l : List UInt8) : Prop := l.length ≠ 0 /\ l.length <= 24 /\ ∀ j (hj : j < l.length), OkAt j l[j].toNat
instance (l : List UInt8) : Decidable (nameP l) := by unfold nameP; infer_instance
def nameB (l : List UInt8) : Bool := decide (nameP l)
theorem nameB_no {l : List UInt8} {i : Nat} {c : UInt8} (hc : l[i]? = some c) (h : ¬ OkAt i c.toNat) : nameB l = false := decide_eq_false fun hn => by
  obtain ⟨hi, rfl⟩ := List.getElem?_eq_some_iff.1 hc
  exact h (hn.2.2 i hi)
theorem nameB_len {l : List UInt8} (h : l.length = 0 ∨ 24 < l.length) : nameB l = false := decide_eq_false fun hn => by
  have h1 := hn.1; have h2 := hn.2.1; omega
theorem nameB_yes {l : List UInt8} (h1 : l.length ≠ 0) (h2 : l.length <= 24) (h : ∀ (j : Nat) (c : UInt8), l[j]? = some c -> OkAt j c.toNat) : nameB l = true := decide_eq_true ⟨h1, h2, fun j hj => h j _ (List.getElem?_eq_getElem hj)⟩
theorem byte_at {s : ByteArray} {i : Nat} (hin : i < s.size) : ∃ c : UInt8, s[i] = c /\ s.data.toList[i]? = some c := by
  refine ⟨s[i], rfl, ?_⟩
  have h2 : s.data[i]? = some s[i] := by rw [Array.getElem?_eq_getElem hin]; rfl
  simpa using h2
theorem refName_c {s : ByteArray} {w : World} : Calls Tryz.prog 27 #[.string s] w (PRet w (.bool (nameB s.data.toList))) := by
  have hsz : s.data.toList.length = s.size := by simp
  by_cases h0 : s.size = 0
  · have e1 : decide ((s.size : Int) < 1) = true := by simp; omega
    have HV := Hid.mk (nameB_len (l := s.data.toList) (Or.inl (by omega)))
    go_enter Tryz.func27, Tryz.ntmps27
    go_wp2_with fail
    go_ret
    exact ⟨by rw [HV.out]; rfl, zaa⟩
  by_cases h24 : 24 < s.size
  · have e1 : decide ((s.size : Int) < 1) = false := by simp; omega
    have e2 : decide ((24 : Int) < (s.size : Int)) = true := by simp; omega
    have e3 : decide (24 < s.size) = true := by simp; omega
    have HV := Hid.mk (nameB_len (l := s.data.toList) (Or.inr (by omega)))
    go_enter Tryz.func27, Tryz.ntmps27
    go_wp2_with fail
    go_ret
    exact ⟨by rw [HV.out]; rfl, zaa⟩
  have e1 : decide ((s.size : Int) < 1) = false := by simp; omega
  have e2 : decide ((24 : Int) < (s.size : Int)) = false := by simp; omega
  have e3 : decide (24 < s.size) = false := by simp; omega
  have HS := Hid.mk (show s.size ≠ 0 /\ s.size <= 24 by omega)
  have HZ := Hid.mk hsz
  clear h0 h24 hsz
  go_enter Tryz.func27, Tryz.ntmps27
  go_wp2_with fail
  go_loopw [3] (fun s3 wr => ∃ i : Nat, s3 = .int .i64 (i : Int) /\ i <= s.size /\ (∀ (j : Nat) (c : UInt8), j < i -> s.data.toList[j]? = some c -> OkAt j c.toNat) /\ ∃ m, wr = w.drewN m) (fun s3 _ => s.size - (intOf s3).toNat)
  case atStart => exact ⟨0, rfl, Nat.zero_le _, fun _ _ h => absurd h (by omega), 0, rfl⟩
  case round =>
    obtain ⟨i, rfl, hi, hok, m, rfl⟩ := hrel
    have HO := Hid.mk hok
    clear hok
    by_cases hin : i < s.size
    · have hlt : decide ((i : Int) < (s.size : Int)) = true := by simp; omega
      have hlt' : (i : Int) < (s.size : Int) := by omega
      have hadd : IntKind.i64.wrap ((i : Int) + 1) = ((i + 1 : Nat) : Int) := by have := HS.out; rw [IntKind.wrap_i64]; omega
      obtain ⟨c, hc, hci⟩ := byte_at hin
      have HCI := Hid.mk hci
      obtain ⟨x, hx⟩ : ∃ x, c.toNat = x := ⟨_, rfl⟩
      have HX := Hid.mk hx
      have HIN := Hid.mk hin
      clear hci
      go_wp2_with fail
      all_goals first
      | (go_ret; exact ⟨by rw [nameB_no HCI.out (by rw [HX.out]; intro hok; unfold OkAt at hok; first | omega | (simp at *; omega))]; rfl, zaa⟩)
      | (go_roundw
         case rel => exact ⟨i + 1, (by first | rfl | (congr 1; omega)), HIN.out, fun j y hj hy => by
           rcases Nat.lt_or_ge j i with h | h
           · exact HO.out j y h hy
           · obtain rfl : j = i := by omega
             rw [HCI.out] at hy
             obtain rfl := Option.some.inj hy
             rw [HX.out]
             unfold OkAt
             first | omega | (simp at *; omega), _, rfl⟩
         case measure => have := HIN.out; simp [intOf]; omega)
    · have hlt : decide ((i : Int) < (s.size : Int)) = false := by simp; omega
      have hlt' : ¬ (i : Int) < (s.size : Int) := by omega
      go_wp2_with fail
      go_ret
      exact ⟨by rw [nameB_yes (by have := HS.out; have := HZ.out; omega) (by have := HS.out; have := HZ.out; omega) (fun j c hc => HO.out j c (by
        have := (List.getElem?_eq_some_iff.1 hc).1
        have := HZ.out
        omega) hc)]; rfl, zaa⟩
theorem name_cases {s : ByteArray} {i : Nat} (hin : i < s.size) : ∃ c : UInt8, s.data.toList[i]? = some c /\ (Utf8.decode s i).1 <= 2147483647 /\
    ((c.toNat < 128 /\ Utf8.decode s i = (c.toNat, 1)) ∨ (128 <= c.toNat /\ 128 <= (Utf8.decode s i).1 /\ 1 <= (Utf8.decode s i).2)) := by
  obtain ⟨c, hc, hci⟩ := byte_at hin
  refine ⟨c, hci, decode_le s i, ?_⟩
  by_cases h : c.toNat < 128
  · exact .inl ⟨h, by have := decode_ascii s i hin (by rw [hc]; exact h); rw [hc] at this; exact this⟩
  · exact .inr ⟨by omega, decode_high s i hin (by rw [hc]; omega)⟩
theorem IsName_c {s : ByteArray} {w : World} (hs : s.size < 2 ^ 40) : Calls Tryz.prog 26 #[.string s] w (PRet w (.bool (nameB s.data.toList))) := by
  have hsz : s.data.toList.length = s.size := by simp
  by_cases h0 : s.size = 0
  · have HV := Hid.mk (nameB_len (l := s.data.toList) (Or.inl (by omega)))
    obtain rfl : s = ⟨#[]⟩ := by
      have : s.data.toList = [] := List.eq_nil_of_length_eq_zero (by omega)
      cases s with
      | mk d => cases d with
        | mk l => simp at this; rw [this]
    go_enter Tryz.func26, Tryz.ntmps26
    go_wp2_with fail
    go_ret
    exact ⟨by rw [HV.out]; rfl, zaa⟩
  have e4 : (s.toList == []) = false := by
    rw [ByteArray.toList_eq, beq_eq_false_iff_ne]
    intro e; rw [e] at hsz; simp at hsz; omega
  by_cases h24 : 24 < s.size
  · have e2 : decide ((24 : Int) < (s.size : Int)) = true := by simp; omega
    have e3 : decide (24 < s.size) = true := by simp; omega
    have HV := Hid.mk (nameB_len (l := s.data.toList) (Or.inr (by omega)))
    go_enter Tryz.func26, Tryz.ntmps26
    go_wp2_with fail
    go_ret
    exact ⟨by rw [HV.out]; rfl, zaa⟩
  have e2 : decide ((24 : Int) < (s.size : Int)) = false := by simp; omega
  have e3 : decide (24 < s.size) = false := by simp; omega
  have HS := Hid.mk (show s.size ≠ 0 /\ s.size <= 24 by omega)
  have HZ := Hid.mk hsz
  clear h0 h24 hsz hs
  go_enter Tryz.func26, Tryz.ntmps26
  go_wp2_with fail
  go_loopw [3] (fun s3 wr => ∃ i : Nat, wr = w.iter s i /\ i <= s.size /\ (∀ (j : Nat) (c : UInt8), j < i -> s.data.toList[j]? = some c -> OkAt j c.toNat)) (fun _ wr => s.size - wr.iterPos w.heap.size)
  case atStart => exact ⟨0, rfl, Nat.zero_le _, fun _ _ h => absurd h (by omega)⟩
  case round =>
    obtain ⟨i, rfl, hi, hok⟩ := hrel
    have HO := Hid.mk hok
    clear hok
    by_cases hin : i < s.size
    · obtain ⟨c, hci, hle, hcs⟩ := name_cases hin
      have hnx := fun ty => run_next_any (P := Tryz.prog) w s i ty hin
      have HCI := Hid.mk hci; have HIN := Hid.mk hin
      clear hci
      rcases hcs with ⟨hc, hd⟩ | ⟨hc, hd1, hd2⟩
      · rw [hd] at hnx
        obtain ⟨x, hx⟩ : ∃ x, c.toNat = x := ⟨_, rfl⟩
        have HX := Hid.mk hx
        have hadd : (c.toNat, 1).1 = x := hx
        simp only [hx] at hnx
        clear hd hle hc hadd hx
        go_wp2_with fail
        all_goals first
        | (go_ret; exact ⟨by rw [nameB_no HCI.out (by rw [HX.out]; intro hok; unfold OkAt at hok; first | omega | (simp at *; omega))]; rfl, (show Nxt w (w.alloc _) from zaa)⟩)
        | (go_roundw
           case rel => exact ⟨i + 1, (by first | rfl | (congr 1; omega)), HIN.out, fun j y hj hy => by
             rcases Nat.lt_or_ge j i with h | h
             · exact HO.out j y h hy
             · obtain rfl : j = i := by omega
               rw [HCI.out] at hy
               obtain rfl := Option.some.inj hy
               rw [HX.out]
               unfold OkAt
               first | omega | (simp at *; omega)⟩
           case measure => have := HIN.out; rw [World.iterPos_iter, World.iterPos_iter]; omega)
      · obtain ⟨d, hd⟩ : ∃ d, Utf8.decode s i = d := ⟨_, rfl⟩
        rw [hd] at hnx hd1 hd2
        obtain ⟨x, n⟩ := d
        simp only at hnx hd1 hd2
        have HC := Hid.mk hc
        have f1 : decide ((97 : Int) <= (x : Int)) = true := by simp; omega
        have f2 : decide ((x : Int) <= 122) = false := by simp; omega
        have f3 : decide ((65 : Int) <= (x : Int)) = true := by simp; omega
        have f4 : decide ((x : Int) <= 90) = false := by simp; omega
        have f5 : decide ((48 : Int) <= (x : Int)) = true := by simp; omega
        have f6 : decide ((x : Int) <= 57) = false := by simp; omega
        have f7 : ((x : Int) == 95) = false := by simp; omega
        clear hd hc hd2 hle
        go_wp2_with fail
        all_goals (go_ret; exact ⟨by rw [nameB_no HCI.out (by have := HC.out; unfold OkAt; omega)]; rfl, (show Nxt w (w.alloc _) from zaa)⟩)
    · have hnx := fun ty => run_next_end (P := Tryz.prog) w s i ty hin
      go_wp2_with fail
      go_ret
      exact ⟨by rw [nameB_yes (by have := HS.out; have := HZ.out; omega) (by have := HS.out; have := HZ.out; omega) (fun j c hc => HO.out j c (by
        have := (List.getElem?_eq_some_iff.1 hc).1
        have := HZ.out
        omega) hc)]; rfl, (show Nxt w (w.alloc _) from zaa)⟩
end
section
open Go.RowKit
theorem isWhole9_c {q : Rat} {a : Nat} {w : World} [d : Sz q a] (ha : a <= 2 ^ 30) : Calls Tryz.prog 86 #[str (zad q)] w (PRet w (.bool (decide (q.den = 1)))) := by
  have hl := zdu d
  obtain ⟨h1, h2⟩ := zfY q
  obtain ⟨L, hL⟩ : ∃ L, zad q = L := ⟨_, rfl⟩
  rw [hL] at hl h1 h2 ⊢
  have HSC : Hid (∀ w, Calls _ _ _ w _) := Hid.mk (fun w => zff (s := ⟨L.toArray⟩) (w := w) (by show L.toArray.size < _; simp; omega))
  rw [h1] at HSC
  obtain ⟨k, hk⟩ : ∃ k, (itoaZ q.num).length = k := ⟨_, rfl⟩
  rw [hk] at HSC h2
  have HB : Hid ((k == L.length) = decide (q.den = 1)) := Hid.mk (by
    by_cases h : q.den = 1
    · rw [if_pos h] at h2; rw [decide_eq_true h, h2]; simp
    · rw [if_neg h] at h2; rw [decide_eq_false h, beq_eq_false_iff_ne]; omega)
  have HB2 : Hid (((k : Int) == (L.length : Int)) = decide (q.den = 1)) := Hid.mk (by
    rw [<- HB.out]
    by_cases h : k = L.length
    · rw [h]; simp
    · rw [show (k == L.length) = false from beq_eq_false_iff_ne.2 h, beq_eq_false_iff_ne]; omega)
  clear hl h1 h2 hL hk
  go_enter Tryz.func86, Tryz.ntmps86
  go_wp2_with fail
  refine Calls.mono (HSC.out _) ?_
  rintro e w1 ⟨rfl, hd1⟩
  go_wp2_with fail
  go_ret
  exact ⟨by first | (rw [<- HB2.out]; rfl) | (rw [<- HB.out]; rfl), ⟨hd1.below _⟩⟩
theorem floor9_c {q : Rat} {a : Nat} {w : World} [d1 : Sz q a] (ha : a <= 2 ^ 15) : Calls Tryz.prog 29 #[str (zad q)] w (PRet w (str (zad ((q.num / (q.den : Int) : Int) : Rat)))) := by
  have HA := Hid.mk ha
  have HL1 : Hid (dl q.num.natAbs <= 2 ^ 24) := Hid.mk (Nat.le_trans (dl_wl d1.num) (by omega))
  have HP : Hid ((0 : Int) < (q.den : Int)) := Hid.mk (by have := q.den_nz; omega)
  by_cases h1 : q.den = 1
  · have hd : decide (q.den = 1) = true := decide_eq_true h1
    have HV : Hid (zad q = zad ((q.num / (q.den : Int) : Int) : Rat)) := Hid.mk (by
      rw [zcG, h1, show q.num / ((1 : Nat) : Int) = q.num from Int.ediv_one _]
      unfold zad
      rw [if_pos h1, List.append_nil])
    clear ha h1
    go_enter Tryz.func29, Tryz.ntmps29
    go_wp2_with fail
    refine Calls.mono (isWhole9_c (q := q) (a := a) (by have := HA.out; omega)) ?_
    rw [hd]
    rintro e w1 ⟨rfl, hx1⟩
    go_wp2_with fail
    go_ret
    exact ⟨by rw [<- HV.out]; rfl, zaa⟩
  · have hd : decide (q.den = 1) = false := decide_eq_false h1
    clear ha h1
    go_enter Tryz.func29, Tryz.ntmps29
    go_wp2_with fail
    refine Calls.mono (isWhole9_c (q := q) (a := a) (by have := HA.out; omega)) ?_
    rw [hd]
    rintro e w1 ⟨rfl, hx1⟩
    go_wp2_with fail
    refine Calls.mono (zbW (q := q) HA.out) ?_
    rintro e w3 ⟨⟨bn, ⟨An, kn, cn⟩⟩, ⟨bd, ⟨Ad, kd, cd⟩⟩, rfl, zn, zd, hx3⟩
    go_wp2_with fail
    refine Calls.mono (floorDiv9_c (x := q.num) (y := (q.den : Int)) HL1.out HP.out) ?_
    rintro e w4 ⟨⟨b4, ⟨A4, k4, c4⟩⟩, rfl, z4, hx4⟩
    go_wp2_with fail
    refine Calls.mono (zd9 (z := q.num / (q.den : Int)) ?_) ?_
    · have h1 : (q.num / (q.den : Int)).natAbs <= q.num.natAbs + 1 := by
        have hp := HP.out
        by_cases h : q.num < 0
        · have h2 := Int.ediv_neg_of_neg_of_pos h hp
          have h3 : q.num <= q.num / (q.den : Int) := by
            rw [Int.le_ediv_iff_mul_le hp]
            have := Int.mul_le_mul_of_nonpos_left (show q.num <= 0 by omega) (show (1 : Int) <= (q.den : Int) by omega)
            simpa using this
          omega
        · have h2 := Int.ediv_nonneg (show (0 : Int) <= q.num by omega) (show (0 : Int) <= (q.den : Int) by omega)
          have h3 := Int.ediv_le_self (q.den : Int) (show (0 : Int) <= q.num by omega)
          omega
      have h2 := zar h1
      have h3 : wl (q.num.natAbs + 1) <= a + 1 := by
        refine zaf ?_
        have h4 := Nat.lt_of_lt_of_le (zaz q.num.natAbs) (Nat.pow_le_pow_right (by unfold B64; omega) d1.num)
        have h5 : B64 ^ a < B64 ^ (a + 1) := Nat.pow_lt_pow_right (by unfold B64; omega) (by omega)
        omega
      exact Nat.le_trans (dl_wl (Nat.le_trans h2 h3)) (by have := HA.out; omega)
    rintro e w5 ⟨rfl, hx5⟩
    go_wp2_with fail
    go_ret
    exact ⟨by rw [zcG]; rfl, zaa⟩
end
section
open Go.RowKit Go.Sort Go.Lib
def ofT (n d : Int) : List UInt8 := if d = 0 then [] else wTxt (Rat.divInt n d)
def ofE (n d : Int) : Int := if d = 0 then 6 else wE (Rat.divInt n d)
theorem ofV_any (n d : Int) : ofV n d = .tuple #[str (ofT n d), .int .i64 (ofE n d)] := by
  unfold ofV ofT ofE
  split <;> rfl
def flQ (q : Rat) : Rat := ((q.num / (q.den : Int) : Int) : Rat)
theorem flQ_sz {q : Rat} {a : Nat} [h : Sz q a] : Sz (flQ q) (a + 2) := by
  have h1 : Wd (q.num / (q.den : Int)) (a + 1) := by
    rw [<- zbN q.den_nz]; infer_instance
  exact (inferInstance : Sz ((q.num / (q.den : Int) : Int) : Rat) (a + 1 + 1))
def flT (l : List UInt8) : List UInt8 := if readE l = 0 then wTxt (flQ (readQ l)) else []
def flE (l : List UInt8) : Int := if readE l = 0 then wE (flQ (readQ l)) else readE l
theorem floorV_any (l : List UInt8) : floorV l = .tuple #[str (flT l), .int .i64 (flE l)] := by
  unfold floorV flT flE
  split <;> rfl
theorem floor9_l {l : List UInt8} {w : World} (h : zad (readQ l) = l) : Calls Tryz.prog 29 #[.string ⟨l.toArray⟩] w (PRet w (str (zad (flQ (readQ l))))) := by
  have h1 := floor9_c (q := readQ l) (a := 600) (w := w) (by decide)
  rw [h] at h1
  exact h1
theorem numberForms (HA : Hid AwakeOk) (s : ByteArray) (n0 n1 : Int) (a : List UInt8) (w : World) [hg : Glo w] :
    Calls Tryz.prog 4 #[.string s, .agg #[.int .i64 n0, .int .i64 n1], .string ⟨a.toArray⟩] w (fun e w' => e = .returned (.bool true) /\ Below w.heap.size w w') := by
  obtain ⟨T, hT⟩ : ∃ T, flT a = T := ⟨_, rfl⟩
  obtain ⟨F, hF⟩ : ∃ F, flE a = F := ⟨_, rfl⟩
  obtain ⟨U, hU⟩ : ∃ U, ofT n0 n1 = U := ⟨_, rfl⟩
  obtain ⟨G, hG⟩ : ∃ G, ofE n0 n1 = G := ⟨_, rfl⟩
  obtain ⟨B, hB⟩ : ∃ B, nameB s.data.toList = B := ⟨_, rfl⟩
  have HFl : Hid (a.length <= 1300 -> ∀ (w : World) [Glo w], Calls _ _ _ w _) := Hid.mk (fun h w _ => Floor_c (l := a) (w := w) (by omega))
  rw [floorV_any, hT, hF] at HFl
  have HOf : Hid (-999999999 <= n0 /\ n0 <= 999999999 /\ -999999999 <= n1 /\ n1 <= 999999999 -> ∀ (w : World) [Glo w], Calls _ _ _ w _) := Hid.mk (fun h w _ => Of_c (n := n0) (d := n1) (w := w) (by omega) (by omega) (by omega) (by omega))
  rw [ofV_any, hU, hG] at HOf
  have HN1 : Hid (s.size <= 1300 -> ∀ w : World, Calls _ _ _ w _) := Hid.mk (fun h w => IsName_c (s := s) (w := w) (by omega))
  have HN2 : Hid (∀ w : World, Calls _ _ _ w _) := Hid.mk (fun w => refName_c (s := s) (w := w))
  rw [hB] at HN1 HN2
  have HCK : Hid ((a.length <= 1300 -> ∀ w : World, Calls _ _ _ w _) /\ (zad (readQ a) = a -> ∀ w : World, Calls _ _ _ w _)) := Hid.mk ⟨fun h w => check_core (l := a) (w := w) (by omega), fun h w => floor9_l (l := a) (w := w) h⟩
  have HFK : Hid ((readE a = 0 -> wTxt (flQ (readQ a)) = T /\ wE (flQ (readQ a)) = F) /\ (readE a ≠ 0 -> [] = T /\ readE a = F)) := Hid.mk (by
    rw [<- hT, <- hF]
    unfold flT flE
    exact ⟨fun h => by rw [if_pos h, if_pos h]; exact ⟨rfl, rfl⟩, fun h => by rw [if_neg h, if_neg h]; exact ⟨rfl, rfl⟩⟩)
  have HOK : Hid ((n1 = 0 -> [] = U /\ 6 = G) /\ (n1 ≠ 0 -> wTxt (Rat.divInt n0 n1) = U /\ wE (Rat.divInt n0 n1) = G)) := Hid.mk (by
    rw [<- hU, <- hG]
    unfold ofT ofE
    exact ⟨fun h => by rw [if_pos h, if_pos h]; exact ⟨rfl, rfl⟩, fun h => by rw [if_neg h, if_neg h]; exact ⟨rfl, rfl⟩⟩)
  clear hT hF hU hG hB
  go_enter Tryz.func4, Tryz.ntmps4
  go_wp2_with fail
  refine (HA.out _).mono ?_
  rintro e w1 ⟨rfl, hb1⟩
  have hx1 : Nxt (w.alloc (.cells #[.int .i64 n0, .int .i64 n1] 38)) w1 := ⟨hb1⟩
  have hg1 : Glo w1 := Glo.nxt (a := w.alloc (.cells #[.int .i64 n0, .int .i64 n1] 38))
  have hbk : Blk w1 w.heap.size 38 #[.int .i64 n0, .int .i64 n1] := inferInstance
  have hx1' : Nxt w w1 := zaa
  clear hb1
  go_wp2_with fail
  all_goals try (
    clear hbk hx1
    refine (HA.out _).mono ?_
    rintro e w2 ⟨rfl, hb2⟩
    have hx2 : Nxt w1 w2 := ⟨hb2⟩
    clear hb2
    go_wp2_with fail
    go_ret
    exact ⟨rfl, (zaa : Nxt w w2).out⟩)
  · have HLS := Hid.mk (show s.size <= 1300 by omega)
    have HLA := Hid.mk (show a.length <= 1300 by omega)
    have HLN := Hid.mk (show -999999999 <= n0 /\ n0 <= 999999999 /\ -999999999 <= n1 /\ n1 <= 999999999 by omega)
    clear hx1
    refine Calls.mono (HOf.out HLN.out _) ?_
    rintro e w2 ⟨rfl, hx2⟩
    have hg2 : Glo w2 := Glo.nxt
    go_wp2_with fail
    refine Calls.mono (HFl.out HLA.out _) ?_
    rintro e w3 ⟨rfl, hx3⟩
    go_wp2_with fail
    refine Calls.mono (HN1.out HLS.out _) ?_
    rintro e w4 ⟨rfl, hx4⟩
    go_wp2_with fail
    refine Calls.mono (HN2.out _) ?_
    rintro e w5 ⟨rfl, hx5⟩
    by_cases hz : n1 = 0
    · obtain ⟨h1, h2⟩ := HOK.out.1 hz
      subst h1; subst h2; subst hz
      go_wp2_with fail
      refine Calls.mono (num_bad (E := 6) (y := []) (by decide)) ?_
      rintro e w6 ⟨rfl, hx6⟩
      go_wp2_with fail
      refine Calls.mono (HCK.out.1 HLA.out _) ?_
      by_cases hE : readE a = 0
      · rw [hE]
        rintro e w8 ⟨rfl, hx8⟩
        obtain ⟨h1, h2⟩ := HFK.out.1 hE
        subst h1; subst h2
        have HR := Hid.mk (show zad (readQ a) = a /\ Sz (readQ a) 600 from ⟨read_canon hE, inferInstance⟩)
        clear hE
        go_wp2_with fail
        refine Calls.mono (HCK.out.2 HR.out.1 _) ?_
        rintro e w9 ⟨rfl, hx9⟩
        go_wp2_with fail
        refine Calls.mono (num_ok (q := flQ (readQ a)) (a := 602) (d := flQ_sz) (by decide)) ?_
        rintro e w10 ⟨rfl, hx10⟩
        go_wp2_with fail
        go_ret
        exact ⟨rfl, (zaa : Nxt w _).out⟩
      · rintro e w8 ⟨rfl, hx8⟩
        obtain ⟨h1, h2⟩ := HFK.out.2 hE
        subst h1; subst h2
        have HE := Hid.mk hE
        have k2 : (readE a != 0) = true := by simpa using hE
        clear hE
        go_wp2_with fail
        refine Calls.mono (num_bad (y := []) HE.out) ?_
        rintro e w9 ⟨rfl, hx9⟩
        go_wp2_with fail
        go_ret
        exact ⟨rfl, (zaa : Nxt w _).out⟩
    · obtain ⟨h1, h2⟩ := HOK.out.2 hz
      subst h1; subst h2
      have hz1 : (n1 == 0) = false := by simpa using hz
      have HZ := Hid.mk hz
      clear hz
      go_wp2_with fail
      refine Calls.mono (of9_c (n := n0) (d := n1) (by have := HLN.out; omega) (by have := HLN.out; omega) HZ.out) ?_
      rintro e w6 ⟨rfl, hx6⟩
      have d1 : Wd n0 1 := ⟨zaf (by have := HLN.out; unfold B64; omega)⟩
      have d2 : Wd n1 1 := ⟨zaf (by have := HLN.out; unfold B64; omega)⟩
      have dq : Sz (Rat.divInt n0 n1) 3 := inferInstance
      go_wp2_with fail
      refine Calls.mono (num_ok (q := Rat.divInt n0 n1) (a := 3) (by decide)) ?_
      rintro e w7 ⟨rfl, hx7⟩
      go_wp2_with fail
      refine Calls.mono (HCK.out.1 HLA.out _) ?_
      by_cases hE : readE a = 0
      · rw [hE]
        rintro e w8 ⟨rfl, hx8⟩
        obtain ⟨h1, h2⟩ := HFK.out.1 hE
        subst h1; subst h2
        have HR := Hid.mk (show zad (readQ a) = a /\ Sz (readQ a) 600 from ⟨read_canon hE, inferInstance⟩)
        clear hE
        go_wp2_with fail
        refine Calls.mono (HCK.out.2 HR.out.1 _) ?_
        rintro e w9 ⟨rfl, hx9⟩
        go_wp2_with fail
        refine Calls.mono (num_ok (q := flQ (readQ a)) (a := 602) (d := flQ_sz) (by decide)) ?_
        rintro e w10 ⟨rfl, hx10⟩
        go_wp2_with fail
        go_ret
        exact ⟨rfl, (zaa : Nxt w _).out⟩
      · rintro e w8 ⟨rfl, hx8⟩
        obtain ⟨h1, h2⟩ := HFK.out.2 hE
        subst h1; subst h2
        have HE := Hid.mk hE
        have k2 : (readE a != 0) = true := by simpa using hE
        clear hE
        go_wp2_with fail
        refine Calls.mono (num_bad (y := []) HE.out) ?_
        rintro e w9 ⟨rfl, hx9⟩
        go_wp2_with fail
        go_ret
        exact ⟨rfl, (zaa : Nxt w _).out⟩
end
section
open Go.ChangeShapes Go.WideShapes Go.ChangeAt Go.ChangeMaps Go.WideMaps Go.RowKit
theorem two_key : ArrKey Tryz.prog 38 3 2 := ⟨Tryz.underlying38, by kernel_rfl, by kernel_rfl, by kernel_rfl⟩
theorem lifted_forms (os : Os) (started : os.Started) (H : Type) (enc : TypeId × Value -> H) :
    ReturnsInHanded {} Tryz.checked os 4 .any (fun w args => (Rows.numberFormsSpec.pre enc Tryz.prog Tryz.f4 [] false w args /\ laidMetH Tryz.prog laid3 w) /\ sizedMet enc Tryz.prog Tryz.f4 (OpenSpec.ofChange Rows.numberFormsSpec) false w args)
      (Rows.numberFormsSpec.post enc Tryz.prog Tryz.f4 false true false false) := by
  refine returnsInHanded_of_change_and (C := Tryz.checked) (X := fun w _ => laidMetH Tryz.prog laid3 w) (fun _ _ _ hh h => h.of_heap hh) own started (by kernel_rfl) Tryz.func4
    (ChangeSpec.witness_shaped (enc := enc) (C := Tryz.checked) (os := os) (X := fun w _ => laidMetH Tryz.prog laid3 w) false (World.doorLaid Tryz.prog 400 os) #[.string ⟨#[]⟩, .agg #[.int .i64 0, .int .i64 0], .string ⟨#[]⟩] 8 rfl (World.shaped_of_RefB (by kernel_rfl) (by kernel_rfl)) (by kernel_rfl) (by kernel_rfl) (by kernel_rfl) (door_met os _)) ?_
  intro W base args ds gs before hval0 hW _ _ hL _
  have hval : ∀ (j : Nat) t v, Tryz.f4.params[j]? = some t -> args[j]? = some v -> Value.okWide Tryz.prog W .any base t v := hval0
  have hW' := hW
  obtain ⟨p, q, hA0, hV, rfl, hfz, hnd⟩ := hW
  have hA : DataW.TrodAll enc Tryz.prog W 0 (fun _ => true) true Tryz.f4.params.toList args.toList ds p := hA0
  rw [Tryz.params4] at hA hval
  obtain ⟨v0, v1, v2, d0, d1, d2, p0, p1, p2, rfl, rfl, rfl, h0, h1, h2⟩ := trodAll_three hA
  obtain ⟨rfl, rfl⟩ := trodVars_none hV
  obtain ⟨a0, rfl, rfl, rfl, w0⟩ := open_string Tryz.underlying9 (hval 0 9 v0 rfl rfl) h0
  obtain ⟨n0, n1, rfl, rfl, rfl, wn0, wn1⟩ := open_pair two_key Tryz.underlying3 (hval 1 38 v1 rfl rfl) h1
  obtain ⟨a2, rfl, rfl, rfl, w2⟩ := open_string Tryz.underlying22 (hval 2 22 v2 rfl rfl) h2
  have hg : Glo W := glo_of_laid hL
  clear hA0 hval0
  simp only [List.append_nil] at hW'
  refine (numberForms (Hid.mk awakeOk) a0 n0 n1 a2.data.toList W).mono fun e W' ⟨he, hb⟩ => ?_
  subst he
  exact ⟨_, rfl, _, _, _, [], [], [], hW', trodAll_mk1 (shut_bool Tryz.underlying4 _), trodAll_mk3 (shut_string Tryz.underlying9 w0) (shut_pair two_key Tryz.underlying3 wn0 wn1) (shut_string Tryz.underlying22 w2), rfl, hb.frame _, fun h => by cases h⟩
theorem numberForms_said : Rows.NumberFormsSaid :=
  OpenClaim.holds_of_wide 4 Tryz.f4 rfl rfl rfl rfl rfl rfl rfl ⟨rfl, rfl, rfl, rfl, rfl⟩ rfl rfl rfl rfl rfl (by kernel_rfl) Tryz.func4 (by kernel_rfl)
    (of_decide_eq_true (by kernel_rfl)) (by unfold Func.isWrapper; first | (rw [if_pos (by decide +kernel)]; kernel_rfl) | (rw [if_neg (by decide +kernel)]; exact ⟨rfl, rfl⟩))
    (fun os started H enc _ => lifted_forms os started H enc)
theorem numberForms_holds : Rows.NumberFormsCardSaid :=
  Claim7.holds_tied_plain_at .later [] [.data, .data, .data] true Rows.numberFormsCard.stood.harness false
    numberForms_said (fun _ h => by cases h) (by kernel_rfl) (fun _ h => by cases h) numberForms_row_tie rfl ⟨rfl, rfl⟩ (by kernel_rfl) rfl
    (fun f fn hf hfn => by
      obtain rfl : f = 4 := Option.some.inj ((show Tryz.prog.funcNamed "lenslet/lensletlaw01.NumberForms" = some 4 by kernel_rfl).symm.trans hf) |>.symm
      obtain rfl : fn = Tryz.f4 := (Option.some.inj (Tryz.func4.symm.trans hfn)).symm
      exact ⟨by kernel_rfl, fun j t ht => by
        rw [Tryz.params4] at ht
        have hm : t ∈ [9, 38, 22] := by simpa using Array.mem_of_getElem? ht
        have hall : ([9, 38, 22].all fun u => !Tryz.prog.wantsStandIn u) = true := by kernel_rfl
        exact (show Tryz.prog.wantsStandIn t = false by simpa using List.all_eq_true.1 hall t hm)⟩)
    (by kernel_rfl)
end
end Go.Proofs.YtamnflfakogigaaGreatDoor
