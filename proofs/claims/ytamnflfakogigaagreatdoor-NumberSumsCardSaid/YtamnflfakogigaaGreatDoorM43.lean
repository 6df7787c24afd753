import Derived.Test.YtamnflfakogigaaGreatDoorM42
set_option maxHeartbeats 12800000
set_option maxRecDepth 100000
set_option synthInstance.maxSize 20000
set_option linter.all false
namespace Go.Proofs.YtamnflfakogigaaGreatDoor
section
open Go.RowKit
theorem zeL {v : Value} {q : Rat} {d N M K a b : Nat} {w : World} [h1 : RatIs w v q] [d1 : Sz q b] (ha : a <= 2 ^ 28) (hb : b <= 2 ^ 26) (hd : d <= 2 ^ 20) (hC : CosOk (Rat.divInt 1 2 - q) d N M K a) (hq : 0 < cmpQ q (Rat.divInt 1 4)) (hq2 : cmpQ (Rat.divInt 1 2 - q) (Rat.divInt 1 4) <= 0) :
  Calls Tryz.prog 212 #[v, .int .i64 (d : Int)] w (IRet w (-(cosI (Rat.divInt 1 2 - q) d N M K))) := by
 obtain ⟨s, rfl, _, n1, k1, HE1⟩ := h1.form
 have HA := Hid.mk ha; have HB := Hid.mk hb; have HD := Hid.mk hd
 obtain ⟨c, hc⟩ : ∃ c, cmpQ q (Rat.divInt 1 4) = c := ⟨_, rfl⟩
 have HC := Bx.mk hc
 rw [hc] at hq
 have hcle : decide (0 < c) = true := by simp; omega
 have HCO : Hid (CosOk (Rat.divInt 1 2 - q) d N M K a) := hC
 have HQ2 := Bx.mk hq2
 have s14 : Sz (Rat.divInt 1 4) 3 := ⟨by decide +kernel, by decide +kernel⟩
 have s12 : Sz (Rat.divInt 1 2) 3 := ⟨by decide +kernel, by decide +kernel⟩
 clear ha hb hd hC hc hq2
 go_enter Tryz.func212, Tryz.ntmps212
 go_wp2_with fail
 refine Calls.mono (zcq (by decide) (by decide) (by decide) (by decide)) ?_
 rintro e w1 ⟨q4, rfl, _, _⟩
 go_wp2_with fail
 refine Calls.mono (zcq (by decide) (by decide) (by decide) (by decide)) ?_
 rintro e w1 ⟨q2, rfl, _, _⟩
 go_wp2_with ((first
  | (go_at_call 70; refine Calls.mono (zbz (q := q) (r := Rat.divInt 1 4) (by have := HB.out; omega)) ?_; rw [HC.out]; rintro e w1 ⟨rfl, _⟩)
  | (go_at_call 64; refine Calls.mono (zcV (q := Rat.divInt 1 2) (r := q) (by have := HB.out; omega)) ?_; rintro e w1 ⟨q1, rfl, _, _⟩)
  | (go_at_call 212; refine Calls.mono (zcU (q := Rat.divInt 1 2 - q) (N := N) (M := M) (K := K) (a := a) (by exact HA.out) (by have := HB.out; omega) (by exact HD.out) (by exact HCO.out) (by exact HQ2.out)) ?_; rintro e w1 ⟨s1, rfl, _, _⟩)
  | (go_at_call 191; refine Calls.mono (int_Neg_c) ?_; rintro e w1 ⟨s1, rfl, _, _⟩)))
 simp [bodyPost, results, Tryz.results212, go_sem]
 exact ⟨_, rfl, inferInstance, zaa⟩
end
section
open Go.RowKit
@[go_sem] theorem build_three (w : World) : (Instr.build 231 #[(0, .int .i64 32), (1, .int .i64 64), (2, .int .i64 128)]).run Tryz.prog w = .ok (.agg #[.int .i64 32, .int .i64 64, .int .i64 128]) w := by kernel_rfl
@[go_sem] theorem index_three (w : World) : (Instr.index 231 (.agg #[.int .i64 32, .int .i64 64, .int .i64 128]) (.int .i64 0)).run Tryz.prog w = .ok (.int .i64 32) w := by kernel_rfl
theorem zd3 {v : Value} {q : Rat} {dec a b : Nat} {rc S : Int} {w : World} [h1 : RatIs w v q] [d1 : Sz q b] [d2 : Wd rc a] (ha : a <= 2 ^ 28) (hb : b <= 2 ^ 28) (hd : dec <= 12)
  (hr : ∀ {w : World} {v : Value} [RatIs w v q], Calls Tryz.prog 212 #[v, .int .i64 32] w (IRet w rc)) (hl : flr (rc - 3200) ((10 : Int) ^ (32 - dec)) = S) (hh : flr (rc + 3200) ((10 : Int) ^ (32 - dec)) = S) :
  Calls Tryz.prog 171 #[v, .int .i64 (dec : Int)] w (IRet w S) := by
 obtain ⟨s, rfl, _, n1, k1, HE1⟩ := h1.form
 have HR : Hid (∀ {w : World} {v : Value} [RatIs w v q], Calls Tryz.prog 212 #[v, .int .i64 32] w (IRet w rc)) := hr
 have hsub : IntKind.i64.wrap ((32 : Int) - (dec : Int)) = ((32 - dec : Nat) : Int) := by rw [IntKind.wrap_i64]; omega
 obtain ⟨m, hm⟩ : ∃ m, 32 - dec = m := ⟨_, rfl⟩
 rw [hm] at hl hh hsub
 have hm32 : m <= 32 := by omega
 obtain ⟨U, hU⟩ : ∃ U, (10 : Int) ^ m = U := ⟨_, rfl⟩
 have HP := Hid.mk (show ∀ w, Calls Tryz.prog 168 #[.int .i64 10, .int .i64 (m : Int)] w (IRet w ((10 : Int) ^ m)) from fun w => zdN (by decide) (by decide) (by omega))
 have dU : Wd U 40 := by
  rw [<- hU]
  exact ⟨Nat.le_trans (zcD (b := 10) (by decide) (by decide) m).out (by omega)⟩
 have nzU : NZ U := ⟨by rw [<- hU]; have : (0 : Int) < 10 ^ m := Int.pow_pos (by decide); omega⟩
 rw [hU] at hl hh HP
 have HL := Hid.mk hl; have HH := Hid.mk hh
 have d32 : Wd (3200 : Int) 1 := zbC (by omega) (by omega)
 have dS : Wd S (a + 1 + 1 + 1) := by rw [<- hl]; infer_instance
 have HC := Bx.mk (show cmpI (flr (rc - 3200) U) (flr (rc + 3200) U) = 0 by rw [hl, hh]; exact zfX.2 rfl)
 have hM : a + a + a + a + a + a + 999 <= MaxW := by unfold MaxW; omega
 clear hr hl hh hU ha hb hm hd
 go_enter Tryz.func171, Tryz.ntmps171
 go_wp2_with fail
 go_step3
 go_wp2_with fail
 go_step3
 go_wp2_with fail
 go_loopw [7] (fun s7 wr => s7 = .int .i64 1 /\ Blk wr w.heap.size 95 #[.bool s.n.b, .slice s.n.m.A s.n.m.k s.n.m.c, .slice s.d.A s.d.k s.d.c] /\ Blk wr (w.heap.size + 1) 93 #[.bool false, .slice none 0 0] /\
  Blk wr (w.heap.size + 1 + 1) 231 #[.int .i64 32, .int .i64 64, .int .i64 128] /\ Blk wr (w.heap.size + 1 + 1 + 1) 93 #[.bool false, .slice none 0 0] /\ Nxt w wr) (fun _ _ => 0)
 case atStart => exact ⟨rfl, inferInstance, inferInstance, inferInstance, inferInstance, zaa⟩
 case round =>
  obtain ⟨rfl, _, _, _, _, _⟩ := hrel
  go_wp2_with fail
  go_loopw [18] (fun s18 wr => s18 = .int .i64 0 /\ Blk wr w.heap.size 95 #[.bool s.n.b, .slice s.n.m.A s.n.m.k s.n.m.c, .slice s.d.A s.d.k s.d.c] /\ Blk wr (w.heap.size + 1) 93 #[.bool false, .slice none 0 0] /\ Blk wr (w.heap.size + 1 + 1 + 1) 93 #[.bool false, .slice none 0 0] /\ Nxt w wr) (fun _ _ => 0)
  case atStart => exact ⟨rfl, inferInstance, inferInstance, inferInstance, zaa⟩
  case round =>
   obtain ⟨rfl, _, _, _, _⟩ := hrel
   go_wp2_with ((first | (go_at_call 212; refine Calls.mono (HR.out (v := s.v)) ?_; rintro e w4 ⟨s4, rfl, _, _⟩) | (go_at_call 80; refine Calls.mono (zaD (n := 3200) (by omega) (by omega)) ?_; rintro e w5 ⟨s5, rfl, _, _⟩) | (go_at_call 168; refine Calls.mono (HP.out _) ?_; rintro e w6 ⟨s6, rfl, _, _⟩)))
   (refine Code.nameW ?_; intro W hW; go_region_held3 (fun w' => ButO W [w.heap.size + 1 + 1 + 1] w') (exact zab) (((first | (go_at_call 213; refine Calls.mono (zcy (by omega)) ?_; rintro e w1 ⟨s1, rfl, _, _⟩) | (go_at_call 147; refine Calls.mono (zal (by omega)) ?_; rintro e w1 ⟨s1, rfl, _, _⟩)))))
   all_goals go_wp2_with fail
   all_goals (refine Code.nameW ?_; intro W hW; go_region_held3 (fun w' => ButO W [] w') (exact zab) (((first | (go_at_call 145; refine Calls.mono (zbm (by omega)) ?_; rintro e w1 ⟨s1, rfl, _, _⟩) | (go_at_call 147; refine Calls.mono (zal (by omega)) ?_; rintro e w1 ⟨s1, rfl, _, _⟩) | (go_at_call 152; refine Calls.mono (za2 (by omega) HC.out) ?_; rintro e w1 ⟨rfl, _⟩)))))
   all_goals go_wp2_with fail
   all_goals (try rw [Exit.noGoto_ret])
   all_goals simp [bodyPost, results, Tryz.results171, go_sem]
   all_goals exact ⟨_, rfl, by rw [<- HL.out]; infer_instance, zaa⟩
end
end Go.Proofs.YtamnflfakogigaaGreatDoor
