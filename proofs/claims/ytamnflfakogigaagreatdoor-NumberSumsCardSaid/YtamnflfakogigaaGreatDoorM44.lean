import Derived.Test.YtamnflfakogigaaGreatDoorM38
set_option maxHeartbeats 12800000
set_option maxRecDepth 100000
set_option synthInstance.maxSize 20000
set_option linter.all false
namespace Go.Proofs.YtamnflfakogigaaGreatDoor
section
open Go.RowKit Go.Sort Go.Lib
def fracQ (q : Rat) : Rat := q - ((q.num / (q.den : Int) : Int) : Rat)
def foldQ (q : Rat) : Rat := if 0 < cmpQ (fracQ q) (Rat.divInt 1 2) then Rat.divInt 1 1 - fracQ q else fracQ q
def CosIs (t : Rat) (dec : Nat) (x : Rat × Rat) : Prop :=
 (∃ r, zcs (wTxt t) = some r /\ x = (r, r)) ∨
 (zcs (wTxt t) = none /\ ∃ S : Int, Wd S 1000 /\ x = stepI S dec /\ ∀ {w : World} {v : Value} [RatIs w v t], Calls Tryz.prog 171 #[v, .int .i64 (dec : Int)] w (IRet w S))
instance fracQ_sz {q : Rat} {a : Nat} [h : Sz q a] : Sz (fracQ q) (a + (a + 1 + 1) + 1) := by
 have hF : Wd (q.num / (q.den : Int)) (a + 1) := by rw [<- zbN q.den_nz]; infer_instance
 unfold fracQ; infer_instance
theorem floor_wd {q : Rat} {a : Nat} (h : Sz q a) : Wd (q.num / (q.den : Int)) (a + 1) := by rw [<- zbN q.den_nz]; infer_instance
section
variable {w : World} {v : Value} {q : Rat} {dec a : Nat} {x : Rat × Rat}
theorem cosine_c [h1 : RatIs w v q] [d1 : Sz q a] [hg : Glo w] (ha : a <= 2 ^ 17) (hd : dec <= 2 ^ 20) (hx : CosIs (foldQ q) dec x) :
  Calls Tryz.prog 102 #[v, .int .i64 (dec : Int)] w (VRet w x) := by
 obtain ⟨s, rfl, _, n1, k1, HE1⟩ := h1.form
 have HA := Hid.mk ha; have HD := Hid.mk hd
 obtain ⟨f, hf⟩ : ∃ f, fracQ q = f := ⟨_, rfl⟩
 have df : Sz f (a + (a + 1 + 1) + 1) := by rw [<- hf]; infer_instance
 have dF := floor_wd d1
 have HF := Hid.mk (show q - ((q.num / (q.den : Int) : Int) : Rat) = f from hf)
 obtain ⟨c, hc⟩ : ∃ c, cmpQ f (Rat.divInt 1 2) = c := ⟨_, rfl⟩
 have HC := Bx.mk hc
 obtain ⟨t, ht⟩ : ∃ t, foldQ q = t := ⟨_, rfl⟩
 have HT1 := Hid.mk (show 0 < c -> Rat.divInt 1 1 - f = t from fun h => by rw [<- ht]; unfold foldQ; rw [hf, hc, if_pos h])
 have HT2 := Hid.mk (show ¬ 0 < c -> f = t from fun h => by rw [<- ht]; unfold foldQ; rw [hf, hc, if_neg h])
 have s11 : Sz (Rat.divInt 1 1) 3 := ⟨by decide +kernel, by decide +kernel⟩
 have s12 : Sz (Rat.divInt 1 2) 3 := ⟨by decide +kernel, by decide +kernel⟩
 have dt : Sz t (a + (a + 1 + 1) + 1 + 4) := by
  by_cases h : 0 < c
  ·rw [<- HT1.out h]; exact (size_sub (h1 := s11) (h2 := df)).le' (by omega)
  ·rw [<- HT2.out h]; exact df.le' (by omega)
 rw [ht] at hx
 have HX : Hid (CosIs t dec x) := hx
 clear ha hd hf hc ht hx
 go_enter Tryz.func102, Tryz.ntmps102
 go_upto_region 1 with fail
 go_cut [] (fun wx => ∃ (sf : RV), Blk wx w.heap.size 95 #[.bool sf.n.b, .slice sf.n.m.A sf.n.m.k sf.n.m.c, .slice sf.d.A sf.d.k sf.d.c] /\ RatIs wx sf.v f /\
  Blk wx (w.heap.size + 1) 122 #[.bool false, .slice none 0 0, .slice none 0 0, .bool false, .slice none 0 0, .slice none 0 0] /\ Nxt w wx)
 case first =>
  go_region_with ((first | (go_at_call 82; refine Calls.mono (zfn (by have := HA.out; omega)) ?_; rintro e w1 ⟨s1, rfl, _, _⟩) | (go_at_call 81; refine Calls.mono (zbr) ?_; rintro e w1 ⟨q1, rfl, _, _⟩) | (go_at_call 64; refine Calls.mono (zcV (by have := HA.out; omega)) ?_; rw [HF.out]; rintro e w1 ⟨q1, rfl, _, _⟩)))
  all_goals go_wp2_with fail
  all_goals go_meet
  all_goals exact ⟨_, inferInstance, inferInstance, inferInstance, zaa⟩
 case rest =>
  obtain ⟨sf, _, _, _, _⟩ := hcut
  by_cases h0 : 0 < c
  ·have HTX := Hid.mk (HT1.out h0)
   have h0' : decide (0 < c) = true := decide_eq_true h0
   go_wp2_with fail
   (refine Code.nameW ?_; intro W hW; go_region_held3 (fun w' => ButO W [] w') (exact zab) (((first | (go_at_call 133; refine Calls.mono (zcq (by decide) (by decide) (by decide) (by decide)) ?_; rintro e w1 ⟨q1, rfl, _, _⟩) | (go_at_call 70; refine Calls.mono (zbz (q := f) (r := Rat.divInt 1 2) (by have := HA.out; omega)) ?_; rw [HC.out]; rintro e w1 ⟨rfl, _⟩)))))
   all_goals go_upto_region 3 with fail
   all_goals go_cut [] (fun wx => ∃ (sf : RV), Blk wx w.heap.size 95 #[.bool sf.n.b, .slice sf.n.m.A sf.n.m.k sf.n.m.c, .slice sf.d.A sf.d.k sf.d.c] /\ RatIs wx sf.v t /\
    Blk wx (w.heap.size + 1) 122 #[.bool false, .slice none 0 0, .slice none 0 0, .bool false, .slice none 0 0, .slice none 0 0] /\ Nxt w wx)
   case first =>
    go_region_with ((first | (go_at_call 133; refine Calls.mono (zcq (by decide) (by decide) (by decide) (by decide)) ?_; rintro e w1 ⟨q1, rfl, _, _⟩) | (go_at_call 64; refine Calls.mono (zcV (by have := HA.out; omega)) ?_; rw [HTX.out]; rintro e w1 ⟨q1, rfl, _, _⟩)))
    all_goals go_wp2_with fail
    all_goals go_meet
    all_goals exact ⟨_, inferInstance, inferInstance, inferInstance, zaa⟩
   case rest =>
    obtain ⟨st, _, _, _, _⟩ := hcut
    go_wp2_with fail
    rcases HX.out with ⟨r, hr, rfl⟩ | ⟨hr, S, dS, rfl, hst⟩
    ·refine Calls.mono (zce (q := t) (by have := HA.out; omega)) ?_
     rw [hr]
     rintro e w2 ⟨sv, rfl, i2, _⟩
     have i2 : RatIs w2 sv.v r := i2
     have hr1 : (some r).isSome = true := rfl
     clear hr
     go_wp2_with (go_at_call 167; refine Calls.mono (single_c) ?_; rintro e w1 ⟨p1, p2, rfl, _, _, _⟩)
     simp [bodyPost, results, Tryz.results102, go_sem]
     exact ⟨_, _, (by repeat' (first | apply And.intro | rfl)), inferInstance, inferInstance, zaa⟩
    ·refine Calls.mono (zce (q := t) (by have := HA.out; omega)) ?_
     rw [hr]
     rintro e w2 ⟨sv, rfl, i2, _⟩
     have HST : Hid (∀ {w : World} {v : Value} [RatIs w v t], Calls Tryz.prog 171 #[v, .int .i64 (dec : Int)] w (IRet w S)) := hst
     have hr1 : (none : Option Rat).isSome = false := rfl
     clear hr hst i2
     go_wp2_with ((first | (go_at_call 171; refine Calls.mono (HST.out) ?_; rintro e w1 ⟨s1, rfl, _, _⟩) | (go_at_call 169; refine Calls.mono (zcf (n := S) (by decide) (by exact HD.out)) ?_; rintro e w1 ⟨p1, p2, rfl, _, _, _⟩)))
     simp [bodyPost, results, Tryz.results102, go_sem]
     exact ⟨_, _, (by repeat' (first | apply And.intro | rfl)), inferInstance, inferInstance, zaa⟩
  ·have HTX := Hid.mk (HT2.out h0)
   have h0' : decide (0 < c) = false := decide_eq_false h0
   go_wp2_with fail
   (refine Code.nameW ?_; intro W hW; go_region_held3 (fun w' => ButO W [] w') (exact zab) (((first | (go_at_call 133; refine Calls.mono (zcq (by decide) (by decide) (by decide) (by decide)) ?_; rintro e w1 ⟨q1, rfl, _, _⟩) | (go_at_call 70; refine Calls.mono (zbz (q := f) (r := Rat.divInt 1 2) (by have := HA.out; omega)) ?_; rw [HC.out]; rintro e w1 ⟨rfl, _⟩)))))
   all_goals (have it : RatIs w1 sf.v t := by (rw [<- HTX.out]; infer_instance))
   all_goals (have ib : Blk w1 w.heap.size 95 #[.bool sf.n.b, .slice sf.n.m.A sf.n.m.k sf.n.m.c, .slice sf.d.A sf.d.k sf.d.c] := inferInstance)
   all_goals (have ic : Blk w1 (w.heap.size + 1) 122 #[.bool false, .slice none 0 0, .slice none 0 0, .bool false, .slice none 0 0, .slice none 0 0] := inferInstance)
   all_goals (have id1 : Nxt w w1 := zaa)
   all_goals clear h0 h0'
   go_wp2_with fail
   rcases HX.out with ⟨r, hr, rfl⟩ | ⟨hr, S, dS, rfl, hst⟩
   ·refine Calls.mono (zce (q := t) (by have := HA.out; omega)) ?_
    rw [hr]
    rintro e w2 ⟨sv, rfl, i2, _⟩
    have i2 : RatIs w2 sv.v r := i2
    have hr1 : (some r).isSome = true := rfl
    clear hr
    go_wp2_with (go_at_call 167; refine Calls.mono (single_c) ?_; rintro e w1 ⟨p1, p2, rfl, _, _, _⟩)
    simp [bodyPost, results, Tryz.results102, go_sem]
    exact ⟨_, _, (by repeat' (first | apply And.intro | rfl)), inferInstance, inferInstance, zaa⟩
   ·refine Calls.mono (zce (q := t) (by have := HA.out; omega)) ?_
    rw [hr]
    rintro e w2 ⟨sv, rfl, i2, _⟩
    have HST : Hid (∀ {w : World} {v : Value} [RatIs w v t], Calls Tryz.prog 171 #[v, .int .i64 (dec : Int)] w (IRet w S)) := hst
    have hr1 : (none : Option Rat).isSome = false := rfl
    clear hr hst i2
    go_wp2_with ((first | (go_at_call 171; refine Calls.mono (HST.out) ?_; rintro e w1 ⟨s1, rfl, _, _⟩) | (go_at_call 169; refine Calls.mono (zcf (n := S) (by decide) (by exact HD.out)) ?_; rintro e w1 ⟨p1, p2, rfl, _, _, _⟩)))
    simp [bodyPost, results, Tryz.results102, go_sem]
    exact ⟨_, _, (by repeat' (first | apply And.intro | rfl)), inferInstance, inferInstance, zaa⟩
end
end
end Go.Proofs.YtamnflfakogigaaGreatDoor
