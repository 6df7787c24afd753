import Derived.Test.YtombhkpniddceaaGreatDoorM14
set_option maxHeartbeats 1600000
set_option maxRecDepth 100000
set_option linter.all false
namespace Go.Proofs.YtombhkpniddceaaGreatDoor
open Go.Lib Go.RowKit Go.Sort
def rNeg (l:List UInt8):Bool:=Lib.hasPrefix l [45]
def rNum (l:List UInt8):List UInt8:=(cut1 (Lib.trimPrefix l [45]) 47).1
def rDen (l:List UInt8):List UInt8:=(cut1 (Lib.trimPrefix l [45]) 47).2.1
def rCut (l:List UInt8):Bool:=(cut1 (Lib.trimPrefix l [45]) 47).2.2
def rE (N D:List UInt8) (t g:Bool):Int:=
 if decL N=false ∨ (g=true/\N=[48]) then 1
 else if t=true/\(decL D=false ∨ D=[48] ∨ D=[49]) then 1
 else if 600 < N.length ∨ 600 < D.length then 4
 else if t=true/\1 < Nat.gcd (zac N) (zac D) then 1
 else 0
def rQ (N D:List UInt8) (t g:Bool):Rat:=
 if rE N D t g=0 then (if t=true then Rat.divInt (sgn g (zac N)) (zac D) else ((sgn g (zac N):Int):Rat)) else 0
def readE (l:List UInt8):Int:=rE (rNum l) (rDen l) (rCut l) (rNeg l)
def readQ (l:List UInt8):Rat:=rQ (rNum l) (rDen l) (rCut l) (rNeg l)
theorem zfq {N D:List UInt8} {t g:Bool} (h:rE N D t g ≠ 0):rQ N D t g=0:=if_neg h
theorem znA (l:List UInt8) (c:UInt8):(cut1 l c).1.length <= l.length/\(cut1 l c).2.1.length <= l.length/\((cut1 l c).2.2=false -> (cut1 l c).2.1=[]):=by
 unfold cut1
 split
 ·exact ⟨zv _,Nat.zero_le _,fun _=>rfl⟩
 ·refine ⟨?_, ?_, fun h => by cases h⟩
  ·show (l.take _).length <= _; rw [List.length_take]; omega
  ·show (l.drop _).length <= _; rw [List.length_drop]; omega
theorem zbB {l:List UInt8} (h:decL l=true):Digs l:=by
 have hne:l ≠ []:=by rintro rfl; simp [decL] at h
 by_cases hc:l[0]?=some 48/\1 < l.length
 ·rw [zd0 hc.1 hc.2] at h; cases h
 ·intro b hb
  obtain ⟨j,hj,rfl⟩:=List.getElem_of_mem hb
  exact (zj8 hne hc).1 h j hj
theorem zmh {a b:Nat} (h:a <= b):10 ^ a <= B64 ^ b:=
 zo (Nat.pow_le_pow_right (by omega) h) (Nat.pow_le_pow_left (by unfold B64; omega) _)
theorem zmi {l:List UInt8} {k:Nat} (hd:Digs l) (hs:l.length <= k):wl (zac l) <= k:=
 zaf (Nat.lt_of_lt_of_le (zbc hd) (zmh hs))
theorem zii {l:List UInt8} {w:World} (hd:decL l=true) (hs:l.length <= 600):
  Calls Tryz.prog 161 #[str l] w (fun e w'=>∃ s:IV,e = .returned s.v/\IntIs w' s.v (zac l:Int)/\NatIs w' s.m.v (zac l)/\WdN (zac l) 600/\Nxt w w'):=by
 refine zf (zij (zbB hd) (by omega)) ?_
 rintro e w1 ⟨s1,rfl,hi,hn⟩
 refine ⟨s1,rfl,hi,?_,⟨?_⟩,hn⟩
 ·have := IntIs.nat hi
  rwa [Int.natAbs_natCast] at this
 ·exact zmi (zbB hd) hs
instance {b:Bool} {n k:Nat} [h:WdN n k]:Wd (sgn b n) k:=⟨by rw [zaq]; exact h.out⟩
section
variable {N D:List UInt8} {t g:Bool}
theorem rE1a (h:¬ decL N=true):rE N D t g=1:=by unfold rE; rw [if_pos (Or.inl (by simpa using h))]
theorem rE1b (h:g=true) (h2:(N == [48])=true):rE N D t g=1:=by unfold rE; rw [if_pos (Or.inr ⟨h,by simpa using h2⟩)]
theorem rE1c (h:t=true) (h2:decL D=false ∨ D=[48] ∨ D=[49]):rE N D t g=1:=by
 unfold rE
 split
 ·rfl
 ·rw [if_pos ⟨h,h2⟩]
theorem rE1c1 (h:t=true) (h2:D=[48]):rE N D t g=1:=rE1c h (Or.inr (Or.inl h2))
theorem rE1c2 (h:t=true) (h2:(D == [48])=true ∨ (D == [49])=true):rE N D t g=1:=rE1c h (Or.inr (by simpa using h2))
theorem rE1c3 (h:t=true) (h2:¬ decL D=true):rE N D t g=1:=rE1c h (Or.inl (by simpa using h2))
def Form (N D:List UInt8) (t g:Bool):Prop:=(decL N=true/\(¬ g=true ∨ (N == [48])=false))/\(¬ t=true ∨ (decL D=true/\(D == [48])=false/\(D == [49])=false))
theorem Form.no1 (h:Form N D t g):¬ (decL N=false ∨ (g=true/\N=[48])):=by
 rintro (h1 | ⟨h1,h2⟩)
 ·rw [h.1.1] at h1; cases h1
 ·rcases h.1.2 with h3 | h3
  ·exact h3 h1
  ·rw [h2] at h3; cases h3
theorem Form.no2 (h:Form N D t g):¬ (t=true/\(decL D=false ∨ D=[48] ∨ D=[49])):=by
 rintro ⟨h1,h2⟩
 rcases h.2 with h3 | ⟨h3,h4,h5⟩
 ·exact h3 h1
 ·rcases h2 with h2 | rfl | rfl
  ·rw [h3] at h2; cases h2
  ·cases h4
  ·cases h5
theorem rE4 (h:Form N D t g) (h3:600 < N.length ∨ 600 < D.length):rE N D t g=4:=by
 unfold rE
 rw [if_neg h.no1,if_neg h.no2,if_pos h3]
theorem zlo (h:Form N D t g) (h3:N.length <= 600/\D.length <= 600) (ht:t=true) (hg:1 < Nat.gcd (zac N) (zac D)):rE N D t g=1:=by
 unfold rE
 rw [if_neg h.no1,if_neg h.no2,if_neg (by omega),if_pos ⟨ht,hg⟩]
theorem rE0 (h:Form N D t g) (h3:N.length <= 600/\D.length <= 600) (ht:¬ t=true ∨ Nat.gcd (zac N) (zac D) <= 1):rE N D t g=0:=by
 unfold rE
 rw [if_neg h.no1,if_neg h.no2,if_neg (by omega),if_neg (by rintro ⟨h1,h2⟩; rcases ht with h4 | h4; exact h4 h1; omega)]
end
theorem zll {v1 v2:Value} {b:Bool} {n m:Nat} {w:World} [h1:IntIs w v1 (sgn b n)] [h2:IntIs w v2 (m:Int)] [d1:WdN n 600] [d2:WdN m 600]:
  Calls Tryz.prog 162 #[v1,v2] w (fun e w'=>∃ s:IV,e = .returned s.v/\IntIs w' s.v ((Nat.gcd n m:Nat):Int)/\WdN (Nat.gcd n m) 600/\Nxt w w'):=by
 have h:=zaA (w:=w) (v1:=v1) (v2:=v2) (x:=sgn b n) (y:=(m:Int)) (a:=600) (b:=600) (by omega)
 rw [zaq,Int.natAbs_natCast] at h
 refine zf h ?_
 rintro e w1 ⟨s,rfl,hi,hn⟩
 refine ⟨s,rfl,hi,⟨?_⟩,hn⟩
 rcases Nat.eq_zero_or_pos m with rfl | hm
 ·rw [Nat.gcd_zero_right]; exact d1.out
 ·exact zih (by omega) d2.out
theorem zdZ {l:List UInt8} (h:decL l=true) (h0:l ≠ [48]):zac l ≠ 0:=by
 have hd:=zbB h
 cases l with
 | nil=>simp [decL] at h
 | cons c t=>
  have hc:=hd c (by simp)
  rw [show c :: t=[c] ++ t from rfl,zbQ]
  have h1:zac [c]=c.toNat - 48:=by simp [zac]
  have hp:0 < 10 ^ t.length:=Nat.pow_pos (by omega)
  rcases Nat.eq_zero_or_pos (c.toNat - 48) with h2 | h2
  ·have h3 : c = 48 := by apply UInt8.toNat_inj.1; show c.toNat = 48; omega
   subst h3
   cases t with
   | nil=>exact absurd rfl h0
   | cons d t=>simp [decL] at h
  ·have := Nat.mul_le_mul h2 hp
   rw [h1]; omega
theorem zg6 {N D:List UInt8} {t g:Bool} (hF:Form N D t g) (h3:N.length <= 600/\D.length <= 600) (ht:t=true) (hg:Nat.gcd (zac N) (zac D) <= 1):
  rE N D t g=0/\(rQ N D t g).num=sgn g (zac N)/\(rQ N D t g).den=zac D:=by
 have hE:=rE0 hF h3 (Or.inr hg)
 have hD:zac D ≠ 0:=by
  rcases hF.2 with h | ⟨h1,h2,_⟩
  ·exact absurd ht h
  ·exact zdZ h1 (by simpa using h2)
 refine ⟨hE,zjP hD ?_ ?_⟩
 ·unfold rQ
  rw [if_pos hE,if_pos ht]
 ·rw [zaq]
  have:Nat.gcd (zac N) (zac D) ≠ 0:=fun e=>hD (Nat.eq_zero_of_gcd_eq_zero_right e)
  omega
theorem zln {N D:List UInt8} {t g:Bool} (hE:rE N D t g=0) (ht:¬ t=true):rQ N D t g=((sgn g (zac N):Int):Rat):=by
 unfold rQ
 rw [if_pos hE,if_neg ht]
theorem bl_two {n:Nat} (h:(1:Int) < ((bl n:Nat):Int)):1 < n:=by
 rcases Nat.lt_or_ge 1 n with h1 | h1
 ·exact h1
 ·have := bl_le (n := n) (k := 1) (by omega)
  omega
theorem bl_one' {n:Nat} (h:((bl n:Nat):Int) <= 1):n <= 1:=by
 have:=zfB n
 have h2:2 ^ bl n <= 2 ^ 1:=Nat.pow_le_pow_right (by omega) (by omega)
 omega
theorem zdJ {l:List UInt8} {w:World} (hl:l.length < 2 ^ 40):
  Calls Tryz.prog 70 #[str l] w (fun e w'=>∃ s:RV,e = .returned (.tuple #[s.v,.int .i64 (readE l)])/\RatIs w' s.v (readQ l)/\Nxt w w'):=by
 have htl:(Lib.trimPrefix l [45]).length <= l.length:=by
  unfold Lib.trimPrefix
  split
  ·rw [List.length_drop]; omega
  ·omega
 have hcp:=fun w=>zjn (l:=l) (p:=[45]) (w:=w)
 have hct:=fun w=>cut_c (l:=Lib.trimPrefix l [45]) (c:=47) (w:=w) (by omega)
 have hlen:=znA (Lib.trimPrefix l [45]) 47
 unfold readE readQ
 change ∀ w,Calls _ _ _ w (PRet w (.tuple #[_,.bool (rNeg l)])) at hcp
 change ∀ w,Calls _ _ _ w (PRet w (.tuple #[str (rNum l),str (rDen l),.bool (rCut l)])) at hct
 change (rNum l).length <= _/\(rDen l).length <= _/\(rCut l=false -> rDen l=[]) at hlen
 generalize rNum l=N at *
 generalize rDen l=D at *
 generalize rCut l=t at *
 generalize rNeg l=g at *
 generalize Lib.trimPrefix l [45]=P at *
 have HNL:=zc (show N.length < 2 ^ 62 by omega)
 have HDL:=zc (show D.length < 2 ^ 62 by omega)
 have HTF:=zc hlen.2.2
 have HCP:=zc hcp; have HCT:=zc hct
 clear htl hlen hcp hct hl
 have HBM:=zc (show 600 <= MaxW by unfold MaxW; omega)
 go_enter Tryz.func70,Tryz.ntmps70
 go_wp2_with ((first
  | (go_at_call 157; refine zf (HCP.out _) ?_; rintro e w1 ⟨rfl,_⟩)
  | (go_at_call 158; refine zf (HCT.out _) ?_; rintro e w1 ⟨rfl,_⟩)
  | (go_at_call 159; refine zf (zi8 (by first | exact HNL.out | exact HDL.out)) ?_; rintro e w1 ⟨rfl,_⟩)
  | (go_at_call 161; refine zf (zii (by assumption) (by omega)) ?_; rintro e w1 ⟨s1,rfl,_,_,_,_⟩)
  | (go_at_call 160; refine zf zbq ?_; rintro e w1 ⟨b1,rfl,_,_⟩; obtain ⟨sM,hM⟩:∃ sM:NV,sM=s1.m:=⟨_,rfl⟩)
  | (go_at_call 143; refine zf (zbr) ?_; rintro e w1 ⟨q1,rfl,_,_⟩)
  | (go_at_call 162; refine zf (zll) ?_; rintro e w1 ⟨s2,rfl,_,_,_⟩)
  | (go_at_call 163; refine zf (zaW (a:=600) HBM.out) ?_; rintro e w1 ⟨rfl,_⟩)))
 all_goals try (
  have hE:rE N D t g=1:=by first | exact rE1a (by assumption) | exact rE1b (by assumption) (by assumption) | exact rE1c1 (by assumption) (by assumption) | exact rE1c2 (by assumption) (by assumption) | exact rE1c3 (by assumption) (by assumption)
  have hQ:rQ N D t g=0:=zfq (by rw [hE]; decide)
  simp only [hE,hQ]
  simp [bodyPost,results,Tryz.results70,go_sem]
  exact ⟨⟨⟨false,⟨none,0,0⟩⟩,⟨none,0,0⟩⟩,⟨rfl,⟨rfl,rfl,rfl⟩,rfl,rfl,rfl⟩,zbf,zaa⟩)
 all_goals (have hF:Form N D t g:=⟨⟨by assumption,by first | exact Or.inl (by assumption) | exact Or.inr (by assumption)⟩,by first | exact Or.inl (by assumption) | exact Or.inr ⟨by assumption,by assumption⟩⟩)
 all_goals try (
  have hE:rE N D t g=4:=rE4 hF (by omega)
  have hQ:rQ N D t g=0:=zfq (by rw [hE]; decide)
  simp only [hE,hQ]
  simp [bodyPost,results,Tryz.results70,go_sem]
  exact ⟨⟨⟨false,⟨none,0,0⟩⟩,⟨none,0,0⟩⟩,⟨rfl,⟨rfl,rfl,rfl⟩,rfl,rfl,rfl⟩,zbf,zaa⟩)
 all_goals try (
  have hE:rE N D t g=1:=zlo hF (by omega) (by assumption) (bl_two (by assumption))
  have hQ:rQ N D t g=0:=zfq (by rw [hE]; decide)
  simp only [hE,hQ]
  simp [bodyPost,results,Tryz.results70,go_sem]
  exact ⟨⟨⟨false,⟨none,0,0⟩⟩,⟨none,0,0⟩⟩,⟨rfl,⟨rfl,rfl,rfl⟩,rfl,rfl,rfl⟩,zbf,zaa⟩)
 all_goals (cases t <;> cases g <;> try contradiction)
 all_goals try (
  have hE:=rE4 hF (by omega)
  have hQ:=zfq (by rw [hE]; decide)
  simp only [hE,hQ]
  simp [bodyPost,results,Tryz.results70,go_sem]
  exact ⟨⟨⟨false,⟨none,0,0⟩⟩,⟨none,0,0⟩⟩,⟨rfl,⟨rfl,rfl,rfl⟩,rfl,rfl,rfl⟩,zbf,zaa⟩)
 all_goals try (
  have hE:=rE0 hF (by omega) (Or.inl (by decide))
  have hQ:=zln hE (by decide)
  simp only [hE,hQ]
  simp [bodyPost,results,Tryz.results70,go_sem]
  exact ⟨q1,⟨rfl,⟨rfl,rfl,rfl⟩,rfl,rfl,rfl⟩,za,zaa⟩)
 all_goals (
  obtain ⟨hE,hn,hd⟩:=zg6 hF (by omega) (by rfl) (bl_one' (by assumption))
  generalize rQ N D _ _=q at *
  simp only [hE]
  simp [bodyPost,results,Tryz.results70,go_sem]
  exact ⟨⟨⟨b1,sM⟩,s1.m⟩,by subst hM; exact ⟨rfl,⟨rfl,rfl,rfl⟩,rfl,rfl,rfl⟩,RatIs.made (by subst hM; rw [hn]; infer_instance) (za:NatIs _ s1.m.v _) (Or.inl hd.symm),zaa⟩)
end Go.Proofs.YtombhkpniddceaaGreatDoor
