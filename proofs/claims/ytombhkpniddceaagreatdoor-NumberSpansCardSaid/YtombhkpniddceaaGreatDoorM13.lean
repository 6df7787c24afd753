import Derived.Test.YtombhkpniddceaaGreatDoorM10
set_option maxHeartbeats 6400000
set_option maxRecDepth 100000
set_option linter.all false
namespace Go.Proofs.YtombhkpniddceaaGreatDoor
open List renaming setIfInBounds_toArray -> zs0,set_cons_zero -> zs1,set_cons_succ -> zs2
open Go.RowKit
section
variable {P:Program} {ops:Array Oper} {Q:Exit -> Act -> World -> Prop} {md:Region.Mode} {S:World -> Prop}
theorem take_at {i:Nat} {d:Option Nat} {oi:Oper} {v:Value} {fuel:Nat} {listed:Array Bool} {a:Act} {w:World} (hi:ops[i]?=some oi) (hd:oi.dst=d)
  (hs:Region.noSelect ops=true) (hf:Region.free md ops listed i=true) (hr:(Region.ready md ops listed).contains i=true)
  (hQ:∀ c a w,Q (.panic c) (a.put oi.dst v) w -> Q (.panic c) a w) (hy:YieldsIf P ops S oi v a) (hS:S w)
  (h:wpAnyH P md ops Q S fuel (listed.setIfInBounds i true) (a.put d v) w):wpAnyH P md ops Q S (fuel+1) listed a w:=by
 subst hd
 exact wpAnyH_take hi hs hf hr hQ hy hS h
end
def cmpQ (a b:Rat):Int:=cmpI (a.num * b.den) (b.num * a.den)
theorem zeS {x:Int} {d:Nat} (hd:d ≠ 0):sgnI (x * d)=sgnI x:=by
 have hp:(0:Int) < (d:Int):=by omega
 unfold sgnI
 rcases Int.lt_trichotomy x 0 with h | h | h
 ·rw [if_pos h,if_pos (Int.mul_neg_of_neg_of_pos h hp)]
 ·subst h; simp
 ·have := Int.mul_pos h hp
  rw [if_neg (by omega),if_neg (by omega),if_neg (by omega),if_neg (by omega)]
theorem znC {x y x' y':Int} (hx:sgnI x=sgnI x') (hy:sgnI y=sgnI y') (h:sgnI x ≠ sgnI y):cmpI x y=cmpI x' y':=by
 unfold sgnI at hx hy h
 unfold cmpI
 split at hx <;> split at hy <;> (try split at hx) <;> (try split at hy) <;> (try split at hx) <;> (try split at hy) <;> (try split at h) <;> (try split at h) <;> (try split at h) <;> (try split at h) <;> (try split) <;> (try split) <;> (try split) <;> (try split) <;> omega
theorem zaS {v1:Value} {q:Rat} {t:Int} {w:World} [h1:RatIs w v1 q] (ht:sgnI q.num=t):Calls Tryz.prog 71 #[v1] w (PRet w (.int .i64 t)):=by
 subst ht
 exact zaT
theorem za2 {v1 v2:Value} {x y t:Int} {a b:Nat} {w:World} [h1:IntIs w v1 x] [h2:IntIs w v2 y] [d1:Wd x a] [d2:Wd y b] (h:a+b <= MaxW) (ht:cmpI x y=t):Calls Tryz.prog 169 #[v1,v2] w (PRet w (.int .i64 t)):=by
 subst ht
 exact zlS h
theorem zhK {s1 s2:RV} {q r:Rat} {a b:Nat} {t1 t2:Bool} {g1 g2 T:Int} {w:World} [h1:RatIs w s1.v q] [h2:RatIs w s2.v r] [i1:IntIs w s1.n.v q.num] [i2:IntIs w s2.n.v r.num] [d1:Sz q a] [d2:Sz r b] (hl:a+b+a+b <= MaxW)
  (G1:Hid (sgnI q.num=g1)) (G2:Hid (sgnI r.num=g2)) (W1:Hid (decide (q.den=1)=t1)) (W2:Hid (decide (r.den=1)=t2)) (hT:cmpQ q r=T):
  Calls Tryz.prog 97 #[s1.v,s2.v] w (PRet w (.int .i64 T)):=by
 have HT:=zc (show cmpI (q.num * (r.den:Int)) (r.num * (q.den:Int))=T from hT)
 clear hT
 by_cases hne:g1=g2
 ·subst hne
  cases t1
  ·go_enter Tryz.func97, Tryz.ntmps97
   go_wp2_with fail
   refine Code.nameW ?_; intro W hW; have hu:undef=Value.tuple #[]:=rfl
   refine wp_region_held_drew (S:=fun w'=>ButO W [] w') (by kernel_rfl) ?_ (fun hHeld=>?_)
   ·exact zab
   (refine take_at (i:=0) (d:=some 5) (v:=?_) rfl rfl (by kernel_rfl) (by kernel_rfl) (by kernel_rfl) (fun _ _ _ h=>h) (Or.inl ⟨by rfl,?_⟩) (by assumption) ?_; rotate_left; (intro w hSw; (try dsimp only at hSw); go_simp); all_goals (try with_reducible rfl); try simp only [Act.put,zs0,zs1,zs2])
   (refine take_at (i:=2) (d:=some 7) (v:=?_) rfl rfl (by kernel_rfl) (by kernel_rfl) (by kernel_rfl) (fun _ _ _ h=>h) (Or.inl ⟨by rfl,?_⟩) (by assumption) ?_; rotate_left; (intro w hSw; (try dsimp only at hSw); go_simp); all_goals (try with_reducible rfl); try simp only [Act.put,zs0,zs1,zs2])
   (refine wpAnyH_ready (rs:=[1]) (by kernel_rfl) (by simp) ?_; refine AllReadyH.cons rfl (fun K hK=>?_) AllReadyH.nil; go_simp; (first | (go_at_call 71; refine zf (zaS (q:=q) G1.out) ?_; rintro e w1 ⟨rfl,_⟩) | (go_at_call 71; refine zf (zaS (q:=r) G2.out) ?_; rintro e w1 ⟨rfl,_⟩)); (try dsimp only); refine hK.out _ _ ?_ (fun hHeld2=>?_); (try dsimp only); (exact zab); clear hK K hHeld; have hHeld:=hHeld2; clear hHeld2; try simp only [Act.put,zs0,zs1,zs2])
   (refine wpAnyH_ready (rs:=[3]) (by kernel_rfl) (by simp) ?_; refine AllReadyH.cons rfl (fun K hK=>?_) AllReadyH.nil; go_simp; (first | (go_at_call 71; refine zf (zaS (q:=q) G1.out) ?_; rintro e w1 ⟨rfl,_⟩) | (go_at_call 71; refine zf (zaS (q:=r) G2.out) ?_; rintro e w1 ⟨rfl,_⟩)); (try dsimp only); refine hK.out _ _ ?_ (fun hHeld2=>?_); (try dsimp only); (exact zab); clear hK K hHeld; have hHeld:=hHeld2; clear hHeld2; try simp only [Act.put,zs0,zs1,zs2])
   (refine take_at (i:=4) (d:=some 9) (v:=?_) rfl rfl (by kernel_rfl) (by kernel_rfl) (by kernel_rfl) (fun _ _ _ h=>h) (Or.inl ⟨by rfl,?_⟩) (by assumption) ?_; rotate_left; (intro w hSw; (try dsimp only at hSw); go_simp); all_goals (try with_reducible rfl); try simp only [Act.put,zs0,zs1,zs2])
   (refine take_at (i:=5) (d:=some 10) (v:=?_) rfl rfl (by kernel_rfl) (by kernel_rfl) (by kernel_rfl) (fun _ _ _ h=>h) (Or.inl ⟨by rfl,?_⟩) (by assumption) ?_; rotate_left; (intro w hSw; (try dsimp only at hSw); go_simp); all_goals (try with_reducible rfl); try simp only [Act.put,zs0,zs1,zs2])
   (refine take_at (i:=6) (d:=some 11) (v:=?_) rfl rfl (by kernel_rfl) (by kernel_rfl) (by kernel_rfl) (fun _ _ _ h=>h) (Or.inl ⟨by rfl,?_⟩) (by assumption) ?_; rotate_left; (intro w hSw; (try dsimp only at hSw); go_simp); all_goals (try with_reducible rfl); try simp only [Act.put,zs0,zs1,zs2])
   (refine wpAnyH_ready (rs:=[7]) (by kernel_rfl) (by simp) ?_; refine AllReadyH.cons rfl (fun K hK=>?_) AllReadyH.nil; go_simp; ((go_at_call 187; refine zf (zbL (q:=q) (a:=a) (by omega) W1.out) ?_; rintro e w1 ⟨rfl,_⟩)); (try dsimp only); refine hK.out _ _ ?_ (fun hHeld2=>?_); (try dsimp only); (exact zab); clear hK K hHeld; have hHeld:=hHeld2; clear hHeld2; try simp only [Act.put,zs0,zs1,zs2])
   (refine take_at (i:=8) (d:=some 13) (v:=?_) rfl rfl (by kernel_rfl) (by kernel_rfl) (by kernel_rfl) (fun _ _ _ h=>h) (Or.inl ⟨by rfl,?_⟩) (by assumption) ?_; rotate_left; (intro w hSw; (try dsimp only at hSw); go_simp); all_goals (try with_reducible rfl); try simp only [Act.put,zs0,zs1,zs2])
   (refine take_at (i:=9) (d:=some 14) (v:=Value.tuple #[]) rfl rfl (by kernel_rfl) (by kernel_rfl) (by kernel_rfl) (fun _ _ _ h=>h) (Or.inr ⟨by rfl,rfl⟩) (by assumption) ?_; try simp only [Act.put,zs0,zs1,zs2])
   (refine take_at (i:=10) (d:=some 15) (v:=Value.tuple #[]) rfl rfl (by kernel_rfl) (by kernel_rfl) (by kernel_rfl) (fun _ _ _ h=>h) (Or.inr ⟨by rfl,rfl⟩) (by assumption) ?_; try simp only [Act.put,zs0,zs1,zs2])
   (refine take_at (i:=11) (d:=some 16) (v:=?_) rfl rfl (by kernel_rfl) (by kernel_rfl) (by kernel_rfl) (fun _ _ _ h=>h) (Or.inl ⟨by rfl,?_⟩) (by assumption) ?_; rotate_left; (intro w hSw; (try dsimp only at hSw); go_simp); all_goals (try with_reducible rfl); try simp only [Act.put,zs0,zs1,zs2])
   (refine take_at (i:=12) (d:=some 17) (v:=?_) rfl rfl (by kernel_rfl) (by kernel_rfl) (by kernel_rfl) (fun _ _ _ h=>h) (Or.inl ⟨by rfl,?_⟩) (by assumption) ?_; rotate_left; (intro w hSw; (try dsimp only at hSw); go_simp); all_goals (try with_reducible rfl); try simp only [Act.put,zs0,zs1,zs2])
   refine wpAnyH_done (by kernel_rfl) ?_ _
   all_goals go_wp2_with fail
   all_goals (refine Code.nameW ?_; intro W hW; go_region_held3 (fun w'=>ButO W [] w') (exact zab) ((first | (go_at_call 167; refine zf (zak) ?_; rintro e w1 ⟨s1,rfl,_,_⟩) | (go_at_call 168; refine zf (zah (by omega)) ?_; rintro e w1 ⟨s1,rfl,_,_⟩) | (go_at_call 169; refine zf (za2 (by omega) HT.out) ?_; rintro e w1 ⟨rfl,_⟩))))
   all_goals go_wp2_with fail
   all_goals go_ret
   all_goals exact ⟨rfl,zaa⟩
  ·cases t2
   ·go_enter Tryz.func97, Tryz.ntmps97
    go_wp2_with fail
    (refine Code.nameW ?_; intro W hW; have hu:undef=Value.tuple #[]:=rfl; first | (go_region_held3 (fun w'=>ButO W [] w') (exact zab) ((first | (go_at_call 71; refine zf (zaS (q:=q) G1.out) ?_; rintro e w1 ⟨rfl,_⟩) | (go_at_call 71; refine zf (zaS (q:=r) G2.out) ?_; rintro e w1 ⟨rfl,_⟩) | (go_at_call 187; refine zf (zbL (q:=q) (a:=a) (by omega) W1.out) ?_; rintro e w1 ⟨rfl,_⟩) | (go_at_call 187; refine zf (zbL (q:=r) (a:=b) (by omega) W2.out) ?_; rintro e w1 ⟨rfl,_⟩)))) | fail)
    all_goals go_wp2_with fail
    all_goals (refine Code.nameW ?_; intro W hW; go_region_held3 (fun w'=>ButO W [] w') (exact zab) ((first | (go_at_call 167; refine zf (zak) ?_; rintro e w1 ⟨s1,rfl,_,_⟩) | (go_at_call 168; refine zf (zah (by omega)) ?_; rintro e w1 ⟨s1,rfl,_,_⟩) | (go_at_call 169; refine zf (za2 (by omega) HT.out) ?_; rintro e w1 ⟨rfl,_⟩))))
    all_goals go_wp2_with fail
    all_goals go_ret
    all_goals exact ⟨rfl,zaa⟩
   ·have HC:=zc (show cmpI q.num r.num=T by
     have e1:=of_decide_eq_true W1.out; have e2:=of_decide_eq_true W2.out
     have:=HT.out; rw [e1,e2] at this; simpa using this)
    go_enter Tryz.func97,Tryz.ntmps97
    go_wp2_with fail
    (refine Code.nameW ?_; intro W hW; have hu:undef=Value.tuple #[]:=rfl; first | (go_region_held3 (fun w'=>ButO W [] w') (exact zab) ((first | (go_at_call 71; refine zf (zaS (q:=q) G1.out) ?_; rintro e w1 ⟨rfl,_⟩) | (go_at_call 71; refine zf (zaS (q:=r) G2.out) ?_; rintro e w1 ⟨rfl,_⟩) | (go_at_call 187; refine zf (zbL (q:=q) (a:=a) (by omega) W1.out) ?_; rintro e w1 ⟨rfl,_⟩) | (go_at_call 187; refine zf (zbL (q:=r) (a:=b) (by omega) W2.out) ?_; rintro e w1 ⟨rfl,_⟩)))) | fail)
    all_goals go_wp2_with (first | (go_at_call 169; refine zf (za2 (by omega) HC.out) ?_; rintro e w1 ⟨rfl,_⟩))
    all_goals go_ret
    all_goals exact ⟨rfl,zaa⟩
 ·have HC:=zc (show cmpI q.num r.num=T by
   rw [<- HT.out]
   exact (znC (zeS r.den_nz) (zeS q.den_nz) (by rw [zeS r.den_nz,zeS q.den_nz,G1.out,G2.out]; exact hne)).symm)
  have h1:(g1 != g2)=true:=by simp [hne]
  have h2:(g1 == g2)=false:=by simp [hne]
  go_enter Tryz.func97,Tryz.ntmps97
  go_wp2_with fail
  refine Code.nameW ?_; intro W hW; have hu:undef=Value.tuple #[]:=rfl
  refine wp_region_held_drew (S:=fun w'=>ButO W [] w') (by kernel_rfl) ?_ (fun hHeld=>?_)
  ·exact zab
  (refine take_at (i:=0) (d:=some 5) (v:=?_) rfl rfl (by kernel_rfl) (by kernel_rfl) (by kernel_rfl) (fun _ _ _ h=>h) (Or.inl ⟨by rfl,?_⟩) (by assumption) ?_; rotate_left; (intro w hSw; (try dsimp only at hSw); go_simp); all_goals (try with_reducible rfl); try simp only [Act.put,zs0,zs1,zs2])
  (refine take_at (i:=2) (d:=some 7) (v:=?_) rfl rfl (by kernel_rfl) (by kernel_rfl) (by kernel_rfl) (fun _ _ _ h=>h) (Or.inl ⟨by rfl,?_⟩) (by assumption) ?_; rotate_left; (intro w hSw; (try dsimp only at hSw); go_simp); all_goals (try with_reducible rfl); try simp only [Act.put,zs0,zs1,zs2])
  (refine wpAnyH_ready (rs:=[1]) (by kernel_rfl) (by simp) ?_; refine AllReadyH.cons rfl (fun K hK=>?_) AllReadyH.nil; go_simp; (first | (go_at_call 71; refine zf (zaS (q:=q) G1.out) ?_; rintro e w1 ⟨rfl,_⟩) | (go_at_call 71; refine zf (zaS (q:=r) G2.out) ?_; rintro e w1 ⟨rfl,_⟩)); (try dsimp only); refine hK.out _ _ ?_ (fun hHeld2=>?_); (try dsimp only); (exact zab); clear hK K hHeld; have hHeld:=hHeld2; clear hHeld2; try simp only [Act.put,zs0,zs1,zs2])
  (refine wpAnyH_ready (rs:=[3]) (by kernel_rfl) (by simp) ?_; refine AllReadyH.cons rfl (fun K hK=>?_) AllReadyH.nil; go_simp; (first | (go_at_call 71; refine zf (zaS (q:=q) G1.out) ?_; rintro e w1 ⟨rfl,_⟩) | (go_at_call 71; refine zf (zaS (q:=r) G2.out) ?_; rintro e w1 ⟨rfl,_⟩)); (try dsimp only); refine hK.out _ _ ?_ (fun hHeld2=>?_); (try dsimp only); (exact zab); clear hK K hHeld; have hHeld:=hHeld2; clear hHeld2; try simp only [Act.put,zs0,zs1,zs2])
  (refine take_at (i:=4) (d:=some 9) (v:=?_) rfl rfl (by kernel_rfl) (by kernel_rfl) (by kernel_rfl) (fun _ _ _ h=>h) (Or.inl ⟨by rfl,?_⟩) (by assumption) ?_; rotate_left; (intro w hSw; (try dsimp only at hSw); go_simp); all_goals (try with_reducible rfl); try simp only [Act.put,zs0,zs1,zs2])
  (refine take_at (i:=5) (d:=some 10) (v:=?_) rfl rfl (by kernel_rfl) (by kernel_rfl) (by kernel_rfl) (fun _ _ _ h=>h) (Or.inl ⟨by rfl,?_⟩) (by assumption) ?_; rotate_left; (intro w hSw; (try dsimp only at hSw); go_simp); all_goals (try with_reducible rfl); try simp only [Act.put,zs0,zs1,zs2])
  (refine take_at (i:=6) (d:=some 11) (v:=Value.tuple #[]) rfl rfl (by kernel_rfl) (by kernel_rfl) (by kernel_rfl) (fun _ _ _ h=>h) (Or.inr ⟨by rfl,rfl⟩) (by assumption) ?_; try simp only [Act.put,zs0,zs1,zs2])
  (refine take_at (i:=7) (d:=some 12) (v:=Value.tuple #[]) rfl rfl (by kernel_rfl) (by kernel_rfl) (by kernel_rfl) (fun _ _ _ h=>h) (Or.inr ⟨by rfl,rfl⟩) (by assumption) ?_; try simp only [Act.put,zs0,zs1,zs2])
  (refine take_at (i:=8) (d:=some 13) (v:=Value.tuple #[]) rfl rfl (by kernel_rfl) (by kernel_rfl) (by kernel_rfl) (fun _ _ _ h=>h) (Or.inr ⟨by rfl,rfl⟩) (by assumption) ?_; try simp only [Act.put,zs0,zs1,zs2])
  (refine take_at (i:=9) (d:=some 14) (v:=Value.tuple #[]) rfl rfl (by kernel_rfl) (by kernel_rfl) (by kernel_rfl) (fun _ _ _ h=>h) (Or.inr ⟨by rfl,rfl⟩) (by assumption) ?_; try simp only [Act.put,zs0,zs1,zs2])
  (refine take_at (i:=10) (d:=some 15) (v:=Value.tuple #[]) rfl rfl (by kernel_rfl) (by kernel_rfl) (by kernel_rfl) (fun _ _ _ h=>h) (Or.inr ⟨by rfl,rfl⟩) (by assumption) ?_; try simp only [Act.put,zs0,zs1,zs2])
  (refine take_at (i:=11) (d:=some 16) (v:=Value.tuple #[]) rfl rfl (by kernel_rfl) (by kernel_rfl) (by kernel_rfl) (fun _ _ _ h=>h) (Or.inr ⟨by rfl,rfl⟩) (by assumption) ?_; try simp only [Act.put,zs0,zs1,zs2])
  (refine take_at (i:=12) (d:=some 17) (v:=?_) rfl rfl (by kernel_rfl) (by kernel_rfl) (by kernel_rfl) (fun _ _ _ h=>h) (Or.inl ⟨by rfl,?_⟩) (by assumption) ?_; rotate_left; (intro w hSw; (try dsimp only at hSw); go_simp); all_goals (try with_reducible rfl); try simp only [Act.put,zs0,zs1,zs2])
  refine wpAnyH_done (by kernel_rfl) ?_ _
  all_goals go_wp2_with (first | (go_at_call 169; refine zf (za2 (by omega) HC.out) ?_; rintro e w1 ⟨rfl,_⟩))
  all_goals go_ret
  all_goals exact ⟨rfl,zaa⟩
theorem zbz {v1 v2:Value} {q r:Rat} {a b:Nat} {w:World} [h1:RatIs w v1 q] [h2:RatIs w v2 r] [d1:Sz q a] [d2:Sz r b] (hl:a+b <= 2 ^ 36):
  Calls Tryz.prog 97 #[v1,v2] w (PRet w (.int .i64 (cmpQ q r))):=by
 obtain ⟨s1,rfl,i1,n1,k1,HE1⟩:=h1.form
 obtain ⟨s2,rfl,i2,n2,k2,HE2⟩:=h2.form
 exact zhK (a:=a) (b:=b) (by unfold MaxW; omega) rfl rfl rfl rfl rfl
end Go.Proofs.YtombhkpniddceaaGreatDoor
