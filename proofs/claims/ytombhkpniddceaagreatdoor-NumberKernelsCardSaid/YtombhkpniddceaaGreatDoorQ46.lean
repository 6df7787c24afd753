import Derived.Test.YtombhkpniddceaaGreatDoorM45
import Derived.Test.YtombhkpniddceaaGreatDoorM42
set_option linter.all false
namespace Go.Proofs.YtombhkpniddceaaGreatDoor
open Go.RowKit
section
open Go.Sort Go.Lib
theorem rE_zero {N D:List UInt8} {t g:Bool} (hE:rE N D t g=0):Form N D t g/\(N.length <= 600/\D.length <= 600)/\(t=true -> Nat.gcd (zac N) (zac D) <= 1):=by
 unfold rE at hE
 split at hE
 ·cases hE
 ·rename_i h1
  split at hE
  ·cases hE
  ·rename_i h2
   split at hE
   ·cases hE
   ·rename_i h3
    split at hE
    ·cases hE
    ·rename_i h4
     refine ⟨⟨⟨?_,?_⟩,?_⟩,by omega,fun ht=>?_⟩
     ·cases h : decL N
      ·exact absurd (Or.inl h) h1
      ·rfl
     ·cases hg : g
      ·exact Or.inl (by simp)
      ·refine Or.inr ?_
       cases h:(N == [48])
       ·rfl
       ·exact absurd (Or.inr ⟨hg,by simpa using h⟩) h1
     ·cases ht : t
      ·exact Or.inl (by simp)
      ·refine Or.inr ⟨?_, ?_, ?_⟩
       ·cases h : decL D
        ·exact absurd ⟨ht,Or.inl h⟩ h2
        ·rfl
       ·cases h : (D == [48])
        ·rfl
        ·exact absurd ⟨ht,Or.inr (Or.inl (by simpa using h))⟩ h2
       ·cases h : (D == [49])
        ·rfl
        ·exact absurd ⟨ht,Or.inr (Or.inr (by simpa using h))⟩ h2
     ·rcases Nat.lt_or_ge 1 (Nat.gcd (zac N) (zac D)) with h | h
      ·exact absurd ⟨ht,h⟩ h4
      ·exact h
theorem zit:∀ (k:Nat) {l:List UInt8},l.length=k+1 -> Digs l -> (k=0 ∨ l[0]? ≠ some 48) -> Lib.decDigits (zac l)=l
 | 0,l,hl,hd,_=>by
  match l,hl,hd with
  | [d],_,hd=>
   have h1:=hd d (by simp)
   have h2:zac [d]=d.toNat - 48:=by simp [zac]
   rw [h2,zbP (by omega)]
   congr 1
   apply UInt8.toNat_inj.1
   rw [UInt8.toNat_ofNat']
   omega
 | k+1,l,hl,hd,h0=>by
  obtain ⟨i,d,rfl⟩:∃ i d,l=i ++ [d]:=⟨l.dropLast,l.getLast (by intro e; rw [e] at hl; simp at hl),(List.dropLast_concat_getLast _).symm⟩
  have hi:i.length=k+1:=by simp at hl; omega
  have hdi:Digs i:=fun b hb=>hd b (List.mem_append_left _ hb)
  have h1:=hd d (by simp)
  have h48:i[0]? ≠ some 48:=by
   rcases h0 with h | h
   ·omega
   ·rwa [List.getElem?_append_left (by omega)] at h
  have ih:=zit k hi hdi (Or.inr h48)
  have hne:zac i ≠ 0:=fun e=>by
   rw [e] at ih
   have:Lib.decDigits 0=[48]:=by rw [zbP (by omega)]; rfl
   rw [this] at ih
   rw [<- ih] at h48
   exact h48 rfl
  rw [zcL,zdj (by omega),show (10 * zac i+(d.toNat - 48)) / 10=zac i by omega,ih,show (10 * zac i+(d.toNat - 48)) % 10=d.toNat - 48 by omega]
  congr 2
  apply UInt8.toNat_inj.1
  rw [UInt8.toNat_ofNat']
  omega
theorem zer {l:List UInt8} (h:decL l=true):Lib.decDigits (zac l)=l:=by
 have hd:=zbB h
 cases l with
 | nil=>cases h
 | cons c t=>
  refine zit t.length (by simp) hd ?_
  cases t with
  | nil=>exact Or.inl rfl
  | cons e t=>
   refine Or.inr (fun hc=>?_)
   rw [zd0 hc (by simp)] at h
   cases h
theorem zjc (l:List UInt8):l=fracL (rNeg l) (rNum l) (rDen l) (rCut l):=by
 obtain ⟨P,hP⟩:∃ P,Lib.trimPrefix l [45]=P:=⟨_,rfl⟩
 have h1:P=rNum l ++ (if rCut l then 47 :: rDen l else []):=by
  unfold rNum rDen rCut
  rw [hP,ziw]
  split
  ·rename_i h
   exact zdt h
  ·simp
 have h2:l=(if rNeg l then 45 :: P else P):=by
  rw [<- hP]
  unfold rNeg Lib.trimPrefix
  cases l with
  | nil=>rfl
  | cons c t=>
   by_cases hc:c=45
   ·subst hc; simp [Lib.hasPrefix]
   ·have:Lib.hasPrefix (c :: t) [45]=false:=by
     cases h:Lib.hasPrefix (c :: t) [45]
     ·rfl
     ·exfalso
      unfold Lib.hasPrefix at h
      simp at h
      first | exact hc h | exact hc h.symm
    rw [this]
    rfl
 have h3:fracL (rNeg l) (rNum l) (rDen l) (rCut l)=(if rNeg l then 45 :: P else P):=by
  unfold fracL
  rw [h1]
  cases rNeg l <;> rfl
 exact h2.trans h3.symm
theorem zf8 {l:List UInt8} (hE:readE l=0):zad (readQ l)=l:=by
 have hp:=zjc l
 unfold readE at hE
 rw [show readQ l=rQ (rNum l) (rDen l) (rCut l) (rNeg l) from rfl]
 generalize rNum l=N at *
 generalize rDen l=D at *
 generalize rCut l=t at *
 generalize rNeg l=g at *
 obtain ⟨hF,hL,hG⟩:=rE_zero hE
 have hN:=zer hF.1.1
 have hsg:decide (sgn g (zac N) < 0)=g:=by
  cases g
  ·simp [sgn]
  ·have:zac N ≠ 0:=zdZ hF.1.1 (by
    rcases hF.1.2 with h | h
    ·exact absurd rfl h
    ·simpa using h)
   simp [sgn]; omega
 have hab:(sgn g (zac N)).natAbs=zac N:=by rw [zaq]
 rw [zbk]
 by_cases ht:t=true
 ·obtain ⟨_, h1, h2⟩ := zg6 hF hL ht (hG ht)
  have hD:decL D=true/\(D == [48])=false/\(D == [49])=false:=by
   rcases hF.2 with h | h
   ·exact absurd ht h
   ·exact h
  have hD1:zac D ≠ 1:=fun e=>by
   have:=zer hD.1
   rw [e] at this
   rw [<- this] at hD
   exact absurd hD.2.2 (by decide +kernel)
  rw [h1,h2,hsg,hab,hN,zer hD.1,decide_eq_true hD1,hp,ht]
 ·have ht' : t = false := by simpa using ht
  rw [zln hE ht,Rat.num_intCast,Rat.den_intCast,hsg,hab,hN,hp,ht']
  rfl
end
section
variable {w:World}
end
theorem zhl {p q:Rat}:cmpQ p q < 0 ↔ p < q:=by
 unfold cmpQ cmpI
 rw [Rat.lt_iff]
 split
 ·simp_all
 ·split <;> simp_all
theorem zf4 {p q:Rat}:0 < cmpQ p q ↔ q < p:=by
 unfold cmpQ cmpI
 rw [Rat.lt_iff]
 split
 ·rename_i h
  constructor
  ·intro h2; omega
  ·intro h2; omega
 ·split
  ·rename_i h
   constructor
   ·intro h2; omega
   ·intro h2; omega
  ·constructor
   ·intro h2; omega
   ·intro h2; omega
theorem zga {p q:Rat}:cmpQ p q <= 0 ↔ p <= q:=by rw [<- Rat.not_lt,<- zf4]; omega
theorem zjr {p q:Rat}:0 <= cmpQ p q ↔ q <= p:=by rw [<- Rat.not_lt,<- zhl]; omega
def minQ (p q:Rat):Rat:=if cmpQ p q <= 0 then p else q
def maxQ (p q:Rat):Rat:=if 0 <= cmpQ p q then p else q
theorem znZ {p q:Rat} (h:p <= q):minQ p q=p:=if_pos (zga.2 h)
theorem znY {p q:Rat} (h:q <= p):minQ p q=q:=by
 unfold minQ
 split
 ·rename_i h2; exact Rat.le_antisymm (zga.1 h2) h
 ·rfl
theorem zgF {p q:Rat} (h:q <= p):maxQ p q=p:=if_pos (zjr.2 h)
theorem zlH {p q:Rat} (h:p <= q):maxQ p q=q:=by
 unfold maxQ
 split
 ·rename_i h2; exact Rat.le_antisymm h (zjr.1 h2)
 ·rfl
theorem zg8 {p q:Rat}:minQ p q <= p/\minQ p q <= q:=by
 rcases Rat.le_total (a:=p) (b:=q) with h | h
 ·rw [znZ h]; exact ⟨Rat.le_refl,h⟩
 ·rw [znY h]; exact ⟨h,Rat.le_refl⟩
theorem zf9 {p q:Rat}:p <= maxQ p q/\q <= maxQ p q:=by
 rcases Rat.le_total (a:=p) (b:=q) with h | h
 ·rw [zlH h]; exact ⟨h,Rat.le_refl⟩
 ·rw [zgF h]; exact ⟨Rat.le_refl,h⟩
def hullS (s:Rat × Rat) (x:Rat):Rat × Rat:=(minQ s.1 x,maxQ s.2 x)
def hullF (s:Rat × Rat) (l:List Rat):Rat × Rat:=l.foldl hullS s
theorem zf7 {s:Rat × Rat} {x:Rat} (h:s.1 <= s.2):(hullS s x).1 <= (hullS s x).2:=Rat.le_trans zg8.1 (Rat.le_trans h zf9.1)
theorem zgp {s:Rat × Rat} {x:Rat} (h:s.1 <= s.2):incl s x=hullS s x:=by
 unfold incl hullS
 split
 ·rename_i h1
  have h1:=zhl.1 h1
  rw [znY (Rat.le_of_lt h1),zgF (Rat.le_trans (Rat.le_of_lt h1) h)]
 ·rename_i h1
  have h1:s.1 <= x:=Rat.not_lt.1 (fun h=>h1 (zhl.2 h))
  rw [znZ h1]
  split
  ·rename_i h2
   rw [zlH (Rat.le_of_lt (zf4.1 h2))]
  ·rename_i h2
   rw [zgF (Rat.not_lt.1 (fun h=>h2 (zf4.2 h)))]
def four (op:Rat -> Rat -> Rat) (a b:Rat × Rat):Rat × Rat:=hullF (op a.1 b.1,op a.1 b.1) [op a.1 b.2,op a.2 b.1,op a.2 b.2]
theorem zf3 (op:Rat -> Rat -> Rat) (a b:Rat × Rat):comb op a b=four op a b:=by
 unfold comb four
 have h0:((op a.1 b.1,op a.1 b.1):Rat × Rat).1 <= ((op a.1 b.1,op a.1 b.1):Rat × Rat).2:=Rat.le_refl
 have h1:=zf7 (x:=op a.1 b.2) h0
 have h2:=zf7 (x:=op a.2 b.1) h1
 rw [zgp h0,zgp h1,zgp h2]
 rfl
theorem zhb (op:Rat -> Rat -> Rat) (a b:Rat × Rat):(four op a b).1 <= (four op a b).2:=by
 unfold four
 exact zf7 (zf7 (zf7 Rat.le_refl))
theorem zgc {op:Rat -> Rat -> Rat} {a b:Rat × Rat} {p q:Rat} (h:∀ x y,(x=a.1 ∨ x=a.2) -> (y=b.1 ∨ y=b.2) -> p <= op x y/\op x y <= q) (hp:p=op a.1 b.1 ∨ p=op a.1 b.2 ∨ p=op a.2 b.1 ∨ p=op a.2 b.2) (hq:q=op a.1 b.1 ∨ q=op a.1 b.2 ∨ q=op a.2 b.1 ∨ q=op a.2 b.2):four op a b=(p,q):=by
 have h11:=h a.1 b.1 (.inl rfl) (.inl rfl)
 have h12:=h a.1 b.2 (.inl rfl) (.inr rfl)
 have h21:=h a.2 b.1 (.inr rfl) (.inl rfl)
 have h22:=h a.2 b.2 (.inr rfl) (.inr rfl)
 unfold four hullF
 generalize op a.1 b.1=s at *
 generalize op a.1 b.2=t at *
 generalize op a.2 b.1=u at *
 generalize op a.2 b.2=v at *
 simp only [List.foldl_cons,List.foldl_nil,hullS]
 have lo:p <= minQ (minQ (minQ s t) u) v:=by
  unfold minQ
  split <;> (try split) <;> (try split) <;> (first | exact h11.1 | exact h12.1 | exact h21.1 | exact h22.1)
 have hi:maxQ (maxQ (maxQ s t) u) v <= q:=by
  unfold maxQ
  split <;> (try split) <;> (try split) <;> (first | exact h11.2 | exact h12.2 | exact h21.2 | exact h22.2)
 have m1:=zg8 (p:=minQ (minQ s t) u) (q:=v)
 have m2:=zg8 (p:=minQ s t) (q:=u)
 have m3:=zg8 (p:=s) (q:=t)
 have n1:=zf9 (p:=maxQ (maxQ s t) u) (q:=v)
 have n2:=zf9 (p:=maxQ s t) (q:=u)
 have n3:=zf9 (p:=s) (q:=t)
 have lo2:minQ (minQ (minQ s t) u) v <= p:=by
  rcases hp with rfl | rfl | rfl | rfl
  ·exact Rat.le_trans m1.1 (Rat.le_trans m2.1 m3.1)
  ·exact Rat.le_trans m1.1 (Rat.le_trans m2.1 m3.2)
  ·exact Rat.le_trans m1.1 m2.2
  ·exact m1.2
 have hi2:q <= maxQ (maxQ (maxQ s t) u) v:=by
  rcases hq with rfl | rfl | rfl | rfl
  ·exact Rat.le_trans (Rat.le_trans n3.1 n2.1) n1.1
  ·exact Rat.le_trans (Rat.le_trans n3.2 n2.1) n1.1
  ·exact Rat.le_trans n2.2 n1.1
  ·exact n1.2
 rw [Rat.le_antisymm lo2 lo,Rat.le_antisymm hi hi2]
theorem znV (x:Rat):sgnI x.num=cmpQ x 0:=by
 unfold cmpQ cmpI sgnI
 rw [show (0:Rat).den=1 from rfl,show (0:Rat).num=0 from rfl]
 simp
theorem zgk {a:Rat × Rat}:hasZ a=true ↔ a.1 <= 0/\0 <= a.2:=by
 unfold hasZ
 rw [znV,znV,Bool.and_eq_true,decide_eq_true_eq,decide_eq_true_eq,zga,zjr]
theorem zlE {x y z:Rat} (hz:0 <= z) (h:x <= y):x * z <= y * z:=Rat.mul_le_mul_of_nonneg_right h hz
theorem zhW {x y z:Rat} (hz:z <= 0) (h:x <= y):y * z <= x * z:=by
 have h1:=Rat.mul_le_mul_of_nonneg_right (c := -z) h (by have:=Rat.neg_le_neg hz; rwa [Rat.neg_zero] at this)
 rw [Rat.mul_neg,Rat.mul_neg] at h1
 exact Rat.neg_le_neg_iff.1 h1
theorem zqr {x y:Rat} (h:x <= y):(0 <= x -> mulI (x,y) (x,y)=(x * x,y * y)/\x * x <= y * y)/\(y <= 0 -> mulI (x,y) (x,y)=(y * y,x * x)/\y * y <= x * x)/\(x <= 0 -> 0 <= y -> (mulI (x,y) (x,y)).2=maxQ (x * x) (y * y)):=by
 unfold mulI
 rw [zf3]
 refine ⟨fun h0=>?_,fun h0=>?_,fun h0 h1=>?_⟩
 ·have hy : 0 <= y := Rat.le_trans h0 h
  have e1:x * x <= y * x:=zlE h0 h
  have e2:x * y <= y * y:=zlE hy h
  have e3:x * y=y * x:=Rat.mul_comm _ _
  have e4:x * x <= y * y:=Rat.le_trans e1 (e3 ▸ e2)
  refine ⟨zgc ?_ (.inl rfl) (.inr (.inr (.inr rfl))),e4⟩
  intro u v hu hv
  rcases hu with rfl | rfl <;> rcases hv with rfl | rfl
  ·exact ⟨Rat.le_refl,e4⟩
  ·exact ⟨e3 ▸ e1,e2⟩
  ·exact ⟨e1,e3 ▸ e2⟩
  ·exact ⟨e4,Rat.le_refl⟩
 ·have hx : x <= 0 := Rat.le_trans h h0
  have e1:y * x <= x * x:=zhW hx h
  have e2:y * y <= x * y:=zhW h0 h
  have e3:x * y=y * x:=Rat.mul_comm _ _
  have e4:y * y <= x * x:=Rat.le_trans e2 (e3 ▸ e1)
  refine ⟨zgc ?_ (.inr (.inr (.inr rfl))) (.inl rfl),e4⟩
  intro u v hu hv
  rcases hu with rfl | rfl <;> rcases hv with rfl | rfl
  ·exact ⟨e4,Rat.le_refl⟩
  ·exact ⟨e2,e3 ▸ e1⟩
  ·exact ⟨e3 ▸ e2,e1⟩
  ·exact ⟨Rat.le_refl,e4⟩
 ·have e1 : y * x <= 0 * x := zhW h0 h1
  rw [Rat.zero_mul] at e1
  have e2:0 * x <= x * x:=zhW h0 h0
  rw [Rat.zero_mul] at e2
  have e3:0 * y <= y * y:=zlE h1 h1
  rw [Rat.zero_mul] at e3
  have e4:x * y=y * x:=Rat.mul_comm _ _
  have e5:y * x <= x * x:=Rat.le_trans e1 e2
  unfold four hullF
  simp only [List.foldl_cons,List.foldl_nil,hullS,e4]
  rw [zgF e5,zgF e5]
theorem znT {a:Rat × Rat} (h:a.1 <= a.2):sqI a=if hasZ a=true then (0,(mulI a a).2) else mulI a a:=by
 obtain ⟨x,y⟩:=a
 obtain ⟨h1,h2,h3⟩:=zqr h
 simp only at h h1 h2 h3
 unfold sqI
 simp only
 by_cases hz:hasZ (x,y)=true
 ·obtain ⟨z1, z2⟩ := zgk.1 hz
  rw [if_pos hz,if_pos hz,h3 z1 z2]
  split
  ·rename_i hc
   rw [zgF (Rat.le_of_lt (zf4.1 hc))]
  ·rename_i hc
   rw [zlH (Rat.not_lt.1 (fun h=>hc (zf4.2 h)))]
 ·rw [if_neg hz, if_neg hz]
  rcases Rat.le_total (a:=0) (b:=x) with h0 | h0
  ·obtain ⟨e1, e2⟩ := h1 h0
   rw [e1,if_neg (fun hc=>absurd (zf4.1 hc) (Rat.not_lt.2 e2))]
  ·have hy:y <= 0:=by
    rcases Rat.le_total (a:=0) (b:=y) with h4 | h4
    ·exact absurd (zgk.2 ⟨h0,h4⟩) hz
    ·exact h4
   obtain ⟨e1,e2⟩:=h2 hy
   rw [e1]
   split
   ·rfl
   ·rename_i hc
    have:x * x=y * y:=Rat.le_antisymm (Rat.not_lt.1 (fun h=>hc (zf4.2 h))) e2
    rw [this]
section
variable {p q:Rat} {a b:Nat} {w:World}
end
section
variable {g c n:Nat} {t:TypeId} {vs:Array Value} {w:World}
end
@[reducible,go_sem] def spanR (x:Rat × Rat):Value := .agg #[str (zad x.1),str (zad x.2)]
section
variable {g c n k:Nat} {t:TypeId} {vs:Array Value} {w:World}
end
section
variable {x y:Rat × Rat} {k:Nat} {w:World}
end
class Ord2 (x:Rat × Rat):Prop where
 out:x.1 <= x.2
instance {x y:Rat × Rat}:Ord2 (mulI x y):=⟨by unfold mulI; rw [zf3]; exact zhb _ _ _⟩
instance {x y:Rat × Rat}:Ord2 (addI x y):=⟨by unfold addI; rw [zf3]; exact zhb _ _ _⟩
instance {x y:Rat × Rat}:Ord2 (subI x y):=⟨by unfold subI; rw [zf3]; exact zhb _ _ _⟩
instance {q:Rat}:Ord2 (q,q):=⟨Rat.le_refl⟩
theorem zk5 (x:Rat):0 <= x * x:=by
 rcases Rat.le_total (a:=0) (b:=x) with h | h
 ·exact Rat.mul_nonneg h h
 ·have := zhW h h
  rwa [Rat.zero_mul] at this
theorem mul_up {x:Rat × Rat}:x.1 * x.1 <= (mulI x x).2:=by
 unfold mulI
 rw [zf3]
 unfold four hullF
 simp only [List.foldl_cons,List.foldl_nil,hullS]
 exact Rat.le_trans zf9.1 (Rat.le_trans zf9.1 zf9.1)
instance {x:Rat × Rat} [h:Ord2 x]:Ord2 (sqI x):=⟨by
 rw [znT h.out]
 split
 ·exact Rat.le_trans (zk5 x.1) mul_up
 ·exact (za:Ord2 (mulI x x)).out⟩
@[reducible,go_sem] def bxR (x y:Rat × Rat):Value := .agg #[str (zad x.1),str (zad x.2),str (zad y.1),str (zad y.2)]
section
variable {x y:Rat × Rat} {k:Nat} {w:World}
end
section
variable {w:World} {a b c d:List UInt8}
end
section
variable {x y u v:Rat × Rat} {k:Nat} {w:World}
instance sqI_sz1 [h1:Sz x.1 k] [h2:Sz x.2 k]:Sz (sqI x).1 (k+k):=(zhF (za:Sz (x.1 * x.1) (k+k)) (za:Sz (x.2 * x.2) (k+k))).1
instance sqI_sz2 [h1:Sz x.1 k] [h2:Sz x.2 k]:Sz (sqI x).2 (k+k):=(zhF (za:Sz (x.1 * x.1) (k+k)) (za:Sz (x.2 * x.2) (k+k))).2
end
section
open Go.Sort Go.Lib
section
variable {w:World} {x y u v:Rat × Rat} {k:Nat} {s t s2 t2 s3 t3 s4 t4:RV}
end
section
variable {w:World} {a b c d e f g h:List UInt8}
end
section
variable {w:World} {x y:Rat × Rat} {k:Nat}
end
end
section
open Go.Sort Go.Lib
section
variable {a1 a2 a3 a4 b1 b2 b3 b4:List UInt8}
end
end
end Go.Proofs.YtombhkpniddceaaGreatDoor
