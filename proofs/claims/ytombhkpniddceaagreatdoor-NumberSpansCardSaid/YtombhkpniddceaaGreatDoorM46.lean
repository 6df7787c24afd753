import Derived.Test.YtombhkpniddceaaGreatDoorM45
import Derived.Test.YtombhkpniddceaaGreatDoorM42
set_option maxHeartbeats 6400000
set_option maxRecDepth 100000
set_option synthInstance.maxSize 20000
set_option linter.all false
namespace Go.Proofs.YtombhkpniddceaaGreatDoor
open Go.RowKit
section
open Go.Sort Go.Lib
theorem rE_zero {N D:List UInt8} {t g:Bool} (hE:rE N D t g=0):Form N D t g/\(N.length <= 600/\D.length <= 600)/\(t=true -> Nat.gcd (zac N) (zac D) <= 1):=by
 unfold rE at hE
 split at hE
 ·cases hE
 ·rename_i h1
  split at hE
  ·cases hE
  ·rename_i h2
   split at hE
   ·cases hE
   ·rename_i h3
    split at hE
    ·cases hE
    ·rename_i h4
     refine ⟨⟨⟨?_,?_⟩,?_⟩,by omega,fun ht=>?_⟩
     ·cases h : decL N
      ·exact absurd (Or.inl h) h1
      ·rfl
     ·cases hg : g
      ·exact Or.inl (by simp)
      ·refine Or.inr ?_
       cases h:(N == [48])
       ·rfl
       ·exact absurd (Or.inr ⟨hg,by simpa using h⟩) h1
     ·cases ht : t
      ·exact Or.inl (by simp)
      ·refine Or.inr ⟨?_, ?_, ?_⟩
       ·cases h : decL D
        ·exact absurd ⟨ht,Or.inl h⟩ h2
        ·rfl
       ·cases h : (D == [48])
        ·rfl
        ·exact absurd ⟨ht,Or.inr (Or.inl (by simpa using h))⟩ h2
       ·cases h : (D == [49])
        ·rfl
        ·exact absurd ⟨ht,Or.inr (Or.inr (by simpa using h))⟩ h2
     ·rcases Nat.lt_or_ge 1 (Nat.gcd (zac N) (zac D)) with h | h
      ·exact absurd ⟨ht,h⟩ h4
      ·exact h
theorem zit:∀ (k:Nat) {l:List UInt8},l.length=k+1 -> Digs l -> (k=0 ∨ l[0]? ≠ some 48) -> Lib.decDigits (zac l)=l
 | 0,l,hl,hd,_=>by
  match l,hl,hd with
  | [d],_,hd=>
   have h1:=hd d (by simp)
   have h2:zac [d]=d.toNat - 48:=by simp [zac]
   rw [h2,zbP (by omega)]
   congr 1
   apply UInt8.toNat_inj.1
   rw [UInt8.toNat_ofNat']
   omega
 | k+1,l,hl,hd,h0=>by
  obtain ⟨i,d,rfl⟩:∃ i d,l=i ++ [d]:=⟨l.dropLast,l.getLast (by intro e; rw [e] at hl; simp at hl),(List.dropLast_concat_getLast _).symm⟩
  have hi:i.length=k+1:=by simp at hl; omega
  have hdi:Digs i:=fun b hb=>hd b (List.mem_append_left _ hb)
  have h1:=hd d (by simp)
  have h48:i[0]? ≠ some 48:=by
   rcases h0 with h | h
   ·omega
   ·rwa [List.getElem?_append_left (by omega)] at h
  have ih:=zit k hi hdi (Or.inr h48)
  have hne:zac i ≠ 0:=fun e=>by
   rw [e] at ih
   have:Lib.decDigits 0=[48]:=by rw [zbP (by omega)]; rfl
   rw [this] at ih
   rw [<- ih] at h48
   exact h48 rfl
  rw [zcL,zdj (by omega),show (10 * zac i+(d.toNat - 48)) / 10=zac i by omega,ih,show (10 * zac i+(d.toNat - 48)) % 10=d.toNat - 48 by omega]
  congr 2
  apply UInt8.toNat_inj.1
  rw [UInt8.toNat_ofNat']
  omega
theorem zer {l:List UInt8} (h:decL l=true):Lib.decDigits (zac l)=l:=by
 have hd:=zbB h
 cases l with
 | nil=>cases h
 | cons c t=>
  refine zit t.length (by simp) hd ?_
  cases t with
  | nil=>exact Or.inl rfl
  | cons e t=>
   refine Or.inr (fun hc=>?_)
   rw [zd0 hc (by simp)] at h
   cases h
theorem zjc (l:List UInt8):l=fracL (rNeg l) (rNum l) (rDen l) (rCut l):=by
 obtain ⟨P,hP⟩:∃ P,Lib.trimPrefix l [45]=P:=⟨_,rfl⟩
 have h1:P=rNum l ++ (if rCut l then 47 :: rDen l else []):=by
  unfold rNum rDen rCut
  rw [hP,ziw]
  split
  ·rename_i h
   exact zdt h
  ·simp
 have h2:l=(if rNeg l then 45 :: P else P):=by
  rw [<- hP]
  unfold rNeg Lib.trimPrefix
  cases l with
  | nil=>rfl
  | cons c t=>
   by_cases hc:c=45
   ·subst hc; simp [Lib.hasPrefix]
   ·have:Lib.hasPrefix (c :: t) [45]=false:=by
     cases h:Lib.hasPrefix (c :: t) [45]
     ·rfl
     ·exfalso
      unfold Lib.hasPrefix at h
      simp at h
      first | exact hc h | exact hc h.symm
    rw [this]
    rfl
 have h3:fracL (rNeg l) (rNum l) (rDen l) (rCut l)=(if rNeg l then 45 :: P else P):=by
  unfold fracL
  rw [h1]
  cases rNeg l <;> rfl
 exact h2.trans h3.symm
theorem zf8 {l:List UInt8} (hE:readE l=0):zad (readQ l)=l:=by
 have hp:=zjc l
 unfold readE at hE
 rw [show readQ l=rQ (rNum l) (rDen l) (rCut l) (rNeg l) from rfl]
 generalize rNum l=N at *
 generalize rDen l=D at *
 generalize rCut l=t at *
 generalize rNeg l=g at *
 obtain ⟨hF,hL,hG⟩:=rE_zero hE
 have hN:=zer hF.1.1
 have hsg:decide (sgn g (zac N) < 0)=g:=by
  cases g
  ·simp [sgn]
  ·have:zac N ≠ 0:=zdZ hF.1.1 (by
    rcases hF.1.2 with h | h
    ·exact absurd rfl h
    ·simpa using h)
   simp [sgn]; omega
 have hab:(sgn g (zac N)).natAbs=zac N:=by rw [zaq]
 rw [zbk]
 by_cases ht:t=true
 ·obtain ⟨_, h1, h2⟩ := zg6 hF hL ht (hG ht)
  have hD:decL D=true/\(D == [48])=false/\(D == [49])=false:=by
   rcases hF.2 with h | h
   ·exact absurd ht h
   ·exact h
  have hD1:zac D ≠ 1:=fun e=>by
   have:=zer hD.1
   rw [e] at this
   rw [<- this] at hD
   exact absurd hD.2.2 (by decide +kernel)
  rw [h1,h2,hsg,hab,hN,zer hD.1,decide_eq_true hD1,hp,ht]
 ·have ht' : t = false := by simpa using ht
  rw [zln hE ht,Rat.num_intCast,Rat.den_intCast,hsg,hab,hN,hp,ht']
  rfl
end
theorem znj {g c n:Nat} {t:TypeId} {es:List Int} {vs:Array Value} {w:World} [hb:Blk w g t vs] (hv:vs=(es.map (Value.int .i64)).toArray) (hl:es.length=n) (hn:n < 2 ^ 40):
  Calls Tryz.prog 12 #[.slice (some ⟨g,0,none⟩) n c] w (PRet w (.int .i64 (zay es))):=by
 have hc:∀ (i:Nat) (x:Int),es[i]?=some x -> w.cell? ⟨g,i,none⟩=some (.int .i64 x):=by
  intro i x hx
  rw [Blk.cell (vs:=vs),hv]
  simp [hx]
 have HC:=zc hc; have HN:=zc hn; have HL:=zc hl
 clear hc hn hl hv hb
 go_enter Tryz.func12,Tryz.ntmps12
 go_wp2_with fail
 go_loopw [3] (fun s7 wr=>∃ i:Nat,s7 = .int .i64 (i:Int)/\i <= n/\(∀ (j:Nat) (y:Int),j < i -> es[j]?=some y -> y=0)/\∃ m,wr=w.drewN m) (fun s7 _=>n - (intOf s7).toNat)
 case atStart=>exact ⟨0,rfl,Nat.zero_le _,fun _ _ h=>absurd h (by omega),0,rfl⟩
 case round=>
  obtain ⟨i,rfl,hi,hok,m,rfl⟩:=hrel
  have HO:=zc hok
  clear hok
  by_cases hin:i < n
  ·have hlt : decide ((i : Int) < (n : Int)) = true := by simp; omega
   have hlt':(i:Int) < (n:Int):=by omega
   have hadd:IntKind.i64.wrap ((i:Int)+1)=((i+1:Nat):Int):=by have:=HN.out; rw [zx]; omega
   obtain ⟨x,hx⟩:∃ x,es[i]?=some x:=⟨es[i]'(by rw [HL.out]; exact hin),zg _⟩
   have k3:(w.drewN m).cell? ⟨g,i,none⟩=some (.int .i64 x):=HC.out i x hx
   have HX:=zc hx
   clear hx
   by_cases hxy:x=0
   ·subst hxy
    go_wp2_with fail
    go_roundw
    case rel=>exact ⟨i+1,rfl,hin,fun j y hj hy=>by
     rcases Nat.lt_or_ge j i with h | h
     ·exact HO.out j y h hy
     ·obtain rfl : j = i := by omega
      rw [HX.out] at hy; exact (zl hy).symm,_,rfl⟩
    case measure=>simp [intOf]; omega
   ·have hnx : (x != 0) = true := by simpa using hxy
    go_wp2_with fail
    go_ret
    exact ⟨by rw [zcK HO.out HX.out hxy]; rfl,zaa⟩
  ·have hlt : decide ((i : Int) < (n : Int)) = false := by simp; omega
   have hlt':¬ (i:Int) < (n:Int):=by omega
   go_wp2_with fail
   go_ret
   exact ⟨by rw [zcd (fun e he=>by
    obtain ⟨j,hj,rfl⟩:=List.getElem_of_mem he
    exact HO.out j _ (by have:=HL.out; omega) (zg hj))]; rfl,zaa⟩
theorem zgd {g c:Nat} {t:TypeId} {x y:Int} {w:World} [hb:Blk w g t #[.int .i64 x,.int .i64 y]]:
  Calls Tryz.prog 12 #[.slice (some ⟨g,0,none⟩) 2 c] w (PRet w (.int .i64 (or2 x y))):=by
 have h:=znj (g:=g) (c:=c) (n:=2) (es:=[x,y]) (w:=w) rfl rfl (by omega)
 rw [show zay [x,y]=or2 x y by
  unfold or2 zay zay zay
  split
  ·split <;> simp_all
  ·rfl] at h
 exact h
section
variable {w:World}
theorem integer_bad {E z:Int} (h:E ≠ 0):Calls Tryz.prog 27 #[.int .i64 0,.int .i64 E,.int .i64 E,.int .i64 z] w (PRet w (.bool true)):=by
 have hb:(E == 0)=false:=by simpa using h
 have hb2:(E != 0)=true:=by simpa using h
 go_enter Tryz.func27,Tryz.ntmps27
 go_wp2_with fail
 go_ret
 exact ⟨rfl,zaa⟩
theorem integer_ok {z:Int}:Calls Tryz.prog 27 #[.int .i64 z,.int .i64 0,.int .i64 0,.int .i64 z] w (PRet w (.bool true)):=by
 go_enter Tryz.func27,Tryz.ntmps27
 go_wp2_with fail
 go_ret
 exact ⟨rfl,zaa⟩
end
theorem zft {p q:Rat}:(p - q).num < 0 ↔ p < q:=by
 rw [<- Rat.not_le,Rat.le_iff_sub_nonneg q p,<- Rat.num_nonneg]
 omega
theorem zka (p q:Rat):sgQ (p - q)=cmpQ p q:=by
 unfold sgQ cmpQ cmpI
 by_cases h1:p < q
 ·have h2 := zft.2 h1
  rw [if_pos ((Rat.lt_iff p q).1 h1),if_neg (fun e=>by rw [e] at h2; exact absurd h2 (by decide)),if_pos h2]
 ·have h2 : ¬ (p - q).num < 0 := fun h => h1 (zft.1 h)
  rw [if_neg (show ¬ p.num * (q.den:Int) < q.num * (p.den:Int) from fun h=>h1 ((Rat.lt_iff p q).2 h))]
  by_cases h3:p=q
  ·subst h3
   rw [if_pos Rat.sub_self,if_pos rfl]
  ·have h4:p - q ≠ 0:=fun e=>h3 (by
    have:=Rat.sub_add_cancel (a:=p) (b:=q)
    rw [e,Rat.zero_add] at this
    exact this.symm)
   have h5:p.num * (q.den:Int) ≠ q.num * (p.den:Int):=fun e=>h3 (Rat.le_antisymm (Rat.not_lt.1 (fun h=>absurd ((Rat.lt_iff q p).1 h) (by omega))) (Rat.not_lt.1 h1))
   rw [if_neg h4,if_neg h2,if_neg h5]
theorem zhl {p q:Rat}:cmpQ p q < 0 ↔ p < q:=by
 unfold cmpQ cmpI
 rw [Rat.lt_iff]
 split
 ·simp_all
 ·split <;> simp_all
theorem zf4 {p q:Rat}:0 < cmpQ p q ↔ q < p:=by
 unfold cmpQ cmpI
 rw [Rat.lt_iff]
 split
 ·rename_i h
  constructor
  ·intro h2; omega
  ·intro h2; omega
 ·split
  ·rename_i h
   constructor
   ·intro h2; omega
   ·intro h2; omega
  ·constructor
   ·intro h2; omega
   ·intro h2; omega
theorem zga {p q:Rat}:cmpQ p q <= 0 ↔ p <= q:=by rw [<- Rat.not_lt,<- zf4]; omega
theorem zjr {p q:Rat}:0 <= cmpQ p q ↔ q <= p:=by rw [<- Rat.not_lt,<- zhl]; omega
def minQ (p q:Rat):Rat:=if cmpQ p q <= 0 then p else q
def maxQ (p q:Rat):Rat:=if 0 <= cmpQ p q then p else q
theorem znZ {p q:Rat} (h:p <= q):minQ p q=p:=if_pos (zga.2 h)
theorem znY {p q:Rat} (h:q <= p):minQ p q=q:=by
 unfold minQ
 split
 ·rename_i h2; exact Rat.le_antisymm (zga.1 h2) h
 ·rfl
theorem zgF {p q:Rat} (h:q <= p):maxQ p q=p:=if_pos (zjr.2 h)
theorem zlH {p q:Rat} (h:p <= q):maxQ p q=q:=by
 unfold maxQ
 split
 ·rename_i h2; exact Rat.le_antisymm h (zjr.1 h2)
 ·rfl
theorem zg8 {p q:Rat}:minQ p q <= p/\minQ p q <= q:=by
 rcases Rat.le_total (a:=p) (b:=q) with h | h
 ·rw [znZ h]; exact ⟨Rat.le_refl,h⟩
 ·rw [znY h]; exact ⟨h,Rat.le_refl⟩
theorem zf9 {p q:Rat}:p <= maxQ p q/\q <= maxQ p q:=by
 rcases Rat.le_total (a:=p) (b:=q) with h | h
 ·rw [zlH h]; exact ⟨h,Rat.le_refl⟩
 ·rw [zgF h]; exact ⟨Rat.le_refl,h⟩
def hullS (s:Rat × Rat) (x:Rat):Rat × Rat:=(minQ s.1 x,maxQ s.2 x)
def hullF (s:Rat × Rat) (l:List Rat):Rat × Rat:=l.foldl hullS s
theorem zf7 {s:Rat × Rat} {x:Rat} (h:s.1 <= s.2):(hullS s x).1 <= (hullS s x).2:=Rat.le_trans zg8.1 (Rat.le_trans h zf9.1)
theorem zgp {s:Rat × Rat} {x:Rat} (h:s.1 <= s.2):incl s x=hullS s x:=by
 unfold incl hullS
 split
 ·rename_i h1
  have h1:=zhl.1 h1
  rw [znY (Rat.le_of_lt h1),zgF (Rat.le_trans (Rat.le_of_lt h1) h)]
 ·rename_i h1
  have h1:s.1 <= x:=Rat.not_lt.1 (fun h=>h1 (zhl.2 h))
  rw [znZ h1]
  split
  ·rename_i h2
   rw [zlH (Rat.le_of_lt (zf4.1 h2))]
  ·rename_i h2
   rw [zgF (Rat.not_lt.1 (fun h=>h2 (zf4.2 h)))]
def four (op:Rat -> Rat -> Rat) (a b:Rat × Rat):Rat × Rat:=hullF (op a.1 b.1,op a.1 b.1) [op a.1 b.2,op a.2 b.1,op a.2 b.2]
theorem zf3 (op:Rat -> Rat -> Rat) (a b:Rat × Rat):comb op a b=four op a b:=by
 unfold comb four
 have h0:((op a.1 b.1,op a.1 b.1):Rat × Rat).1 <= ((op a.1 b.1,op a.1 b.1):Rat × Rat).2:=Rat.le_refl
 have h1:=zf7 (x:=op a.1 b.2) h0
 have h2:=zf7 (x:=op a.2 b.1) h1
 rw [zgp h0,zgp h1,zgp h2]
 rfl
theorem zhb (op:Rat -> Rat -> Rat) (a b:Rat × Rat):(four op a b).1 <= (four op a b).2:=by
 unfold four
 exact zf7 (zf7 (zf7 Rat.le_refl))
theorem zgc {op:Rat -> Rat -> Rat} {a b:Rat × Rat} {p q:Rat} (h:∀ x y,(x=a.1 ∨ x=a.2) -> (y=b.1 ∨ y=b.2) -> p <= op x y/\op x y <= q) (hp:p=op a.1 b.1 ∨ p=op a.1 b.2 ∨ p=op a.2 b.1 ∨ p=op a.2 b.2) (hq:q=op a.1 b.1 ∨ q=op a.1 b.2 ∨ q=op a.2 b.1 ∨ q=op a.2 b.2):four op a b=(p,q):=by
 have h11:=h a.1 b.1 (.inl rfl) (.inl rfl)
 have h12:=h a.1 b.2 (.inl rfl) (.inr rfl)
 have h21:=h a.2 b.1 (.inr rfl) (.inl rfl)
 have h22:=h a.2 b.2 (.inr rfl) (.inr rfl)
 unfold four hullF
 generalize op a.1 b.1=s at *
 generalize op a.1 b.2=t at *
 generalize op a.2 b.1=u at *
 generalize op a.2 b.2=v at *
 simp only [List.foldl_cons,List.foldl_nil,hullS]
 have lo:p <= minQ (minQ (minQ s t) u) v:=by
  unfold minQ
  split <;> (try split) <;> (try split) <;> (first | exact h11.1 | exact h12.1 | exact h21.1 | exact h22.1)
 have hi:maxQ (maxQ (maxQ s t) u) v <= q:=by
  unfold maxQ
  split <;> (try split) <;> (try split) <;> (first | exact h11.2 | exact h12.2 | exact h21.2 | exact h22.2)
 have m1:=zg8 (p:=minQ (minQ s t) u) (q:=v)
 have m2:=zg8 (p:=minQ s t) (q:=u)
 have m3:=zg8 (p:=s) (q:=t)
 have n1:=zf9 (p:=maxQ (maxQ s t) u) (q:=v)
 have n2:=zf9 (p:=maxQ s t) (q:=u)
 have n3:=zf9 (p:=s) (q:=t)
 have lo2:minQ (minQ (minQ s t) u) v <= p:=by
  rcases hp with rfl | rfl | rfl | rfl
  ·exact Rat.le_trans m1.1 (Rat.le_trans m2.1 m3.1)
  ·exact Rat.le_trans m1.1 (Rat.le_trans m2.1 m3.2)
  ·exact Rat.le_trans m1.1 m2.2
  ·exact m1.2
 have hi2:q <= maxQ (maxQ (maxQ s t) u) v:=by
  rcases hq with rfl | rfl | rfl | rfl
  ·exact Rat.le_trans (Rat.le_trans n3.1 n2.1) n1.1
  ·exact Rat.le_trans (Rat.le_trans n3.2 n2.1) n1.1
  ·exact Rat.le_trans n2.2 n1.1
  ·exact n1.2
 rw [Rat.le_antisymm lo2 lo,Rat.le_antisymm hi hi2]
theorem zhp {a b c d:Rat} (h1:a <= b) (h2:c <= d):a+c <= b+d:=Rat.le_trans (Rat.add_le_add_right.2 h1) (Rat.add_le_add_left.2 h2)
theorem znK {a b:Rat × Rat} (ha:a.1 <= a.2) (hb:b.1 <= b.2):addI a b=(a.1+b.1,a.2+b.2):=by
 unfold addI
 rw [zf3]
 refine zgc ?_ (.inl rfl) (.inr (.inr (.inr rfl)))
 intro x y hx hy
 have h1:a.1 <= x/\x <= a.2:=by rcases hx with rfl | rfl; exact ⟨Rat.le_refl,ha⟩; exact ⟨ha,Rat.le_refl⟩
 have h2:b.1 <= y/\y <= b.2:=by rcases hy with rfl | rfl; exact ⟨Rat.le_refl,hb⟩; exact ⟨hb,Rat.le_refl⟩
 exact ⟨zhp h1.1 h2.1,zhp h1.2 h2.2⟩
theorem zmO {a b:Rat × Rat} (ha:a.1 <= a.2) (hb:b.1 <= b.2):subI a b=(a.1 - b.2,a.2 - b.1):=by
 unfold subI
 rw [zf3]
 refine zgc ?_ (.inr (.inl rfl)) (.inr (.inr (.inl rfl)))
 intro x y hx hy
 have h1:a.1 <= x/\x <= a.2:=by rcases hx with rfl | rfl; exact ⟨Rat.le_refl,ha⟩; exact ⟨ha,Rat.le_refl⟩
 have h2:b.1 <= y/\y <= b.2:=by rcases hy with rfl | rfl; exact ⟨Rat.le_refl,hb⟩; exact ⟨hb,Rat.le_refl⟩
 rw [Rat.sub_eq_add_neg,Rat.sub_eq_add_neg,Rat.sub_eq_add_neg]
 exact ⟨zhp h1.1 (Rat.neg_le_neg h2.2),zhp h1.2 (Rat.neg_le_neg h2.1)⟩
theorem znV (x:Rat):sgnI x.num=cmpQ x 0:=by
 unfold cmpQ cmpI sgnI
 rw [show (0:Rat).den=1 from rfl,show (0:Rat).num=0 from rfl]
 simp
theorem zgk {a:Rat × Rat}:hasZ a=true ↔ a.1 <= 0/\0 <= a.2:=by
 unfold hasZ
 rw [znV,znV,Bool.and_eq_true,decide_eq_true_eq,decide_eq_true_eq,zga,zjr]
theorem zlE {x y z:Rat} (hz:0 <= z) (h:x <= y):x * z <= y * z:=Rat.mul_le_mul_of_nonneg_right h hz
theorem zhW {x y z:Rat} (hz:z <= 0) (h:x <= y):y * z <= x * z:=by
 have h1:=Rat.mul_le_mul_of_nonneg_right (c := -z) h (by have:=Rat.neg_le_neg hz; rwa [Rat.neg_zero] at this)
 rw [Rat.mul_neg,Rat.mul_neg] at h1
 exact Rat.neg_le_neg_iff.1 h1
theorem zqr {x y:Rat} (h:x <= y):(0 <= x -> mulI (x,y) (x,y)=(x * x,y * y)/\x * x <= y * y)/\(y <= 0 -> mulI (x,y) (x,y)=(y * y,x * x)/\y * y <= x * x)/\(x <= 0 -> 0 <= y -> (mulI (x,y) (x,y)).2=maxQ (x * x) (y * y)):=by
 unfold mulI
 rw [zf3]
 refine ⟨fun h0=>?_,fun h0=>?_,fun h0 h1=>?_⟩
 ·have hy : 0 <= y := Rat.le_trans h0 h
  have e1:x * x <= y * x:=zlE h0 h
  have e2:x * y <= y * y:=zlE hy h
  have e3:x * y=y * x:=Rat.mul_comm _ _
  have e4:x * x <= y * y:=Rat.le_trans e1 (e3 ▸ e2)
  refine ⟨zgc ?_ (.inl rfl) (.inr (.inr (.inr rfl))),e4⟩
  intro u v hu hv
  rcases hu with rfl | rfl <;> rcases hv with rfl | rfl
  ·exact ⟨Rat.le_refl,e4⟩
  ·exact ⟨e3 ▸ e1,e2⟩
  ·exact ⟨e1,e3 ▸ e2⟩
  ·exact ⟨e4,Rat.le_refl⟩
 ·have hx : x <= 0 := Rat.le_trans h h0
  have e1:y * x <= x * x:=zhW hx h
  have e2:y * y <= x * y:=zhW h0 h
  have e3:x * y=y * x:=Rat.mul_comm _ _
  have e4:y * y <= x * x:=Rat.le_trans e2 (e3 ▸ e1)
  refine ⟨zgc ?_ (.inr (.inr (.inr rfl))) (.inl rfl),e4⟩
  intro u v hu hv
  rcases hu with rfl | rfl <;> rcases hv with rfl | rfl
  ·exact ⟨e4,Rat.le_refl⟩
  ·exact ⟨e2,e3 ▸ e1⟩
  ·exact ⟨e3 ▸ e2,e1⟩
  ·exact ⟨Rat.le_refl,e4⟩
 ·have e1 : y * x <= 0 * x := zhW h0 h1
  rw [Rat.zero_mul] at e1
  have e2:0 * x <= x * x:=zhW h0 h0
  rw [Rat.zero_mul] at e2
  have e3:0 * y <= y * y:=zlE h1 h1
  rw [Rat.zero_mul] at e3
  have e4:x * y=y * x:=Rat.mul_comm _ _
  have e5:y * x <= x * x:=Rat.le_trans e1 e2
  unfold four hullF
  simp only [List.foldl_cons,List.foldl_nil,hullS,e4]
  rw [zgF e5,zgF e5]
theorem znT {a:Rat × Rat} (h:a.1 <= a.2):sqI a=if hasZ a=true then (0,(mulI a a).2) else mulI a a:=by
 obtain ⟨x,y⟩:=a
 obtain ⟨h1,h2,h3⟩:=zqr h
 simp only at h h1 h2 h3
 unfold sqI
 simp only
 by_cases hz:hasZ (x,y)=true
 ·obtain ⟨z1, z2⟩ := zgk.1 hz
  rw [if_pos hz,if_pos hz,h3 z1 z2]
  split
  ·rename_i hc
   rw [zgF (Rat.le_of_lt (zf4.1 hc))]
  ·rename_i hc
   rw [zlH (Rat.not_lt.1 (fun h=>hc (zf4.2 h)))]
 ·rw [if_neg hz, if_neg hz]
  rcases Rat.le_total (a:=0) (b:=x) with h0 | h0
  ·obtain ⟨e1, e2⟩ := h1 h0
   rw [e1,if_neg (fun hc=>absurd (zf4.1 hc) (Rat.not_lt.2 e2))]
  ·have hy:y <= 0:=by
    rcases Rat.le_total (a:=0) (b:=y) with h4 | h4
    ·exact absurd (zgk.2 ⟨h0,h4⟩) hz
    ·exact h4
   obtain ⟨e1,e2⟩:=h2 hy
   rw [e1]
   split
   ·rfl
   ·rename_i hc
    have:x * x=y * y:=Rat.le_antisymm (Rat.not_lt.1 (fun h=>hc (zf4.2 h))) e2
    rw [this]
section
variable {p q:Rat} {a b:Nat} {w:World}
theorem zqe [d1:Sz p a] [d2:Sz q b] (ha:a <= 2 ^ 15) (hb:b <= 2 ^ 15):Calls Tryz.prog 188 #[str (zad p),str (zad q)] w (PRet w (str (zad (minQ p q)))):=by
 have HC:Hid (∀ w,Calls _ _ _ w _):=zc (fun w=>ziA (p:=p) (q:=q) (w:=w) ha hb)
 rw [zka] at HC
 obtain ⟨c,hc⟩:∃ c,cmpQ p q=c:=⟨_,rfl⟩
 rw [hc] at HC
 by_cases h:c <= 0
 ·have hd : decide (c <= 0) = true := by simpa using h
  have HV:Hid (minQ p q=p):=zc (if_pos (by rw [hc]; exact h))
  clear hc ha hb
  go_enter Tryz.func188,Tryz.ntmps188
  go_wp2_with fail
  refine zf (HC.out _) ?_
  rintro e w1 ⟨rfl,hx1⟩
  go_wp2_with fail
  go_ret
  exact ⟨by rw [HV.out]; rfl,zaa⟩
 ·have hd : decide (c <= 0) = false := by simpa using h
  have HV:Hid (minQ p q=q):=zc (if_neg (by rw [hc]; exact h))
  clear hc ha hb
  go_enter Tryz.func188,Tryz.ntmps188
  go_wp2_with fail
  refine zf (HC.out _) ?_
  rintro e w1 ⟨rfl,hx1⟩
  go_wp2_with fail
  go_ret
  exact ⟨by rw [HV.out]; rfl,zaa⟩
theorem zqf [d1:Sz p a] [d2:Sz q b] (ha:a <= 2 ^ 15) (hb:b <= 2 ^ 15):Calls Tryz.prog 189 #[str (zad p),str (zad q)] w (PRet w (str (zad (maxQ p q)))):=by
 have HC:Hid (∀ w,Calls _ _ _ w _):=zc (fun w=>ziA (p:=p) (q:=q) (w:=w) ha hb)
 rw [zka] at HC
 obtain ⟨c,hc⟩:∃ c,cmpQ p q=c:=⟨_,rfl⟩
 rw [hc] at HC
 by_cases h:0 <= c
 ·have hd : decide (0 <= c) = true := by simpa using h
  have HV:Hid (maxQ p q=p):=zc (if_pos (by rw [hc]; exact h))
  clear hc ha hb
  go_enter Tryz.func189,Tryz.ntmps189
  go_wp2_with fail
  refine zf (HC.out _) ?_
  rintro e w1 ⟨rfl,hx1⟩
  go_wp2_with fail
  go_ret
  exact ⟨by rw [HV.out]; rfl,zaa⟩
 ·have hd : decide (0 <= c) = false := by simpa using h
  have HV:Hid (maxQ p q=q):=zc (if_neg (by rw [hc]; exact h))
  clear hc ha hb
  go_enter Tryz.func189,Tryz.ntmps189
  go_wp2_with fail
  refine zf (HC.out _) ?_
  rintro e w1 ⟨rfl,hx1⟩
  go_wp2_with fail
  go_ret
  exact ⟨by rw [HV.out]; rfl,zaa⟩
end
theorem zpR {p q:Rat} {k:Nat} (h1:Sz p k) (h2:Sz q k):Sz (minQ p q) k:=by unfold minQ; split; exact h1; exact h2
theorem zpS {p q:Rat} {k:Nat} (h1:Sz p k) (h2:Sz q k):Sz (maxQ p q) k:=by unfold maxQ; split; exact h1; exact h2
def strs (L:List (List UInt8)):Array Value:=(L.map str).toArray
section
variable {g c n:Nat} {t:TypeId} {vs:Array Value} {w:World}
theorem zjs {L:List (List UInt8)} [hb:Blk w g t vs] (hv:vs=strs L) (hl:L.length=n) (hn:n < 2 ^ 40) (hs:∀ x ∈ L,x.length <= 2 ^ 19):
  Calls Tryz.prog 45 #[.slice (some ⟨g,0,none⟩) n c] w (PRet w (.int .i64 (zay (L.map readE)))):=by
 have hc:∀ (i:Nat) (x:List UInt8),L[i]?=some x -> ∀ w',Nxt w w' -> w'.cell? ⟨g,i,none⟩=some (str x):=by
  intro i x hx w' hn
  have hb':Blk w' g t vs:=Blk.nxt (h:=hn) (k:=hb)
  rw [Blk.cell (vs:=vs),hv]
  unfold strs
  simp [hx]
 have HC:=zc hc; have HN:=zc hn; have HL:=zc hl
 clear hc hn hl hv hb
 have HS:=zc hs
 clear hs
 go_enter Tryz.func45,Tryz.ntmps45
 go_wp2_with fail
 go_loopw [3] (fun s3 wr=>∃ i:Nat,s3 = .int .i64 (i:Int)/\i <= n/\(∀ (j:Nat) (y:Int),j < i -> (L.map readE)[j]?=some y -> y=0)/\Nxt w wr) (fun s3 _=>n - (intOf s3).toNat)
 case atStart=>exact ⟨0,rfl,Nat.zero_le _,fun _ _ h=>absurd h (by omega),zaa⟩
 case round=>
  obtain ⟨i,rfl,hi,hok,hx0⟩:=hrel
  have HO:=zc hok
  clear hok
  by_cases hin:i < n
  ·have hlt : decide ((i : Int) < (n : Int)) = true := by simp; omega
   have hlt':(i:Int) < (n:Int):=by omega
   have hadd:IntKind.i64.wrap ((i:Int)+1)=((i+1:Nat):Int):=by have:=HN.out; rw [zx]; omega
   obtain ⟨x,hx⟩:∃ x,L[i]?=some x:=⟨L[i]'(by rw [HL.out]; exact hin),zg _⟩
   have k3:=HC.out i x hx wr hx0
   have hm:x.length <= 2 ^ 19:=HS.out x (zk hx)
   have HX:=zc (show (L.map readE)[i]?=some (readE x) by rw [List.getElem?_map,hx]; rfl)
   have HK:Hid (∀ w,Calls _ _ _ w _):=zc (fun w=>zkL (l:=x) (w:=w) (by omega))
   obtain ⟨E,hE⟩:∃ E,readE x=E:=⟨_,rfl⟩
   rw [hE] at HX HK
   clear hx hm hE
   go_wp2_with fail
   refine zf (HK.out _) ?_
   rintro e w1 ⟨rfl,hx1⟩
   by_cases hz:E=0
   ·subst hz
    go_wp2_with fail
    go_roundw
    case rel=>exact ⟨i+1,rfl,hin,fun j y hj hy=>by
     rcases Nat.lt_or_ge j i with h | h
     ·exact HO.out j y h hy
     ·obtain rfl : j = i := by omega
      rw [HX.out] at hy; exact (zl hy).symm,zaa⟩
    case measure=>simp [intOf]; omega
   ·have hnx : (E != 0) = true := by simpa using hz
    go_wp2_with fail
    go_ret
    exact ⟨by rw [zcK HO.out HX.out hz]; rfl,zaa⟩
  ·have hlt : decide ((i : Int) < (n : Int)) = false := by simp; omega
   have hlt':¬ (i:Int) < (n:Int):=by omega
   go_wp2_with fail
   go_ret
   exact ⟨by rw [zcd (fun e he=>by
    obtain ⟨j,hj,rfl⟩:=List.getElem_of_mem he
    exact HO.out j _ (by have:=HL.out; simp at hj; omega) (zg hj))]; rfl,zaa⟩
def zj0 (L:List Rat):Int:=zay (L.map zf6)
theorem zky {q:Rat} (h:zf6 q ≠ 0):zf6 q=4:=by
 unfold zf6 at h ⊢
 split
 ·rename_i hf; exact absurd (if_pos hf) h
 ·rfl
theorem zgo {Q:List Rat} {k:Nat} [hb:Blk w g t vs] (hv:vs=strs (Q.map zad)) (hl:Q.length=n) (hn:n < 2 ^ 40) (hs:∀ q ∈ Q,Sz q k) (hk:k <= 2 ^ 15):
  Calls Tryz.prog 133 #[.slice (some ⟨g,0,none⟩) n c] w (PRet w (.int .i64 (zj0 Q))):=by
 obtain ⟨L,hLQ⟩:∃ L,Q.map zad=L:=⟨_,rfl⟩
 rw [hLQ] at hv
 have hc:∀ (i:Nat) (x:List UInt8),L[i]?=some x -> ∀ w',Nxt w w' -> w'.cell? ⟨g,i,none⟩=some (str x):=by
  intro i x hx w' hn
  have hb':Blk w' g t vs:=Blk.nxt (h:=hn) (k:=hb)
  rw [Blk.cell (vs:=vs),hv]
  unfold strs
  simp [hx]
 have HC:=zc hc; have HN:=zc hn; have HL:=zc hl
 clear hc hn hl hv hb
 have HS:=zc hs; have HK:=zc hk
 have HLQ:=zc hLQ
 clear hs hk hLQ
 unfold zj0
 go_enter Tryz.func133,Tryz.ntmps133
 go_wp2_with fail
 go_loopw [3] (fun s3 wr=>∃ i:Nat,s3 = .int .i64 (i:Int)/\i <= n/\(∀ (j:Nat) (y:Int),j < i -> (Q.map zf6)[j]?=some y -> y=0)/\Nxt w wr) (fun s3 _=>n - (intOf s3).toNat)
 case atStart=>exact ⟨0,rfl,Nat.zero_le _,fun _ _ h=>absurd h (by omega),zaa⟩
 case round=>
  obtain ⟨i,rfl,hi,hok,hx0⟩:=hrel
  have HO:=zc hok
  clear hok
  by_cases hin:i < n
  ·have hlt : decide ((i : Int) < (n : Int)) = true := by simp; omega
   have hlt':(i:Int) < (n:Int):=by omega
   have hadd:IntKind.i64.wrap ((i:Int)+1)=((i+1:Nat):Int):=by have:=HN.out; rw [zx]; omega
   obtain ⟨q,hq⟩:∃ q,Q[i]?=some q:=⟨Q[i]'(by rw [HL.out]; exact hin),zg _⟩
   have k3:=HC.out i (zad q) (by rw [<- HLQ.out,List.getElem?_map,hq]; rfl) wr hx0
   have hm:Sz q k:=HS.out q (zk hq)
   have HX:=zc (show (Q.map zf6)[i]?=some (zf6 q) by rw [List.getElem?_map,hq]; rfl)
   have HG:Hid (∀ w,Calls _ _ _ w _):=zc (fun w=>zm7 (q:=q) (a:=k) (w:=w) HK.out)
   have HT:=zc (zky (q:=q))
   obtain ⟨E,hE⟩:∃ E,zf6 q=E:=⟨_,rfl⟩
   rw [hE] at HX HG HT
   clear hq hm hE
   go_wp2_with fail
   refine zf (HG.out _) ?_
   rintro e w1 ⟨rfl,hx1⟩
   by_cases hz:E=0
   ·subst hz
    go_wp2_with fail
    go_roundw
    case rel=>exact ⟨i+1,rfl,hin,fun j y hj hy=>by
     rcases Nat.lt_or_ge j i with h | h
     ·exact HO.out j y h hy
     ·obtain rfl : j = i := by omega
      rw [HX.out] at hy; exact (zl hy).symm,zaa⟩
    case measure=>simp [intOf]; omega
   ·have hnx : (E != 0) = true := by simpa using hz
    go_wp2_with fail
    go_ret
    exact ⟨by rw [zcK HO.out HX.out hz,HT.out hz]; rfl,zaa⟩
  ·have hlt : decide ((i : Int) < (n : Int)) = false := by simp; omega
   have hlt':¬ (i:Int) < (n:Int):=by omega
   go_wp2_with fail
   go_ret
   exact ⟨by rw [zcd (fun e he=>by
    obtain ⟨j,hj,rfl⟩:=List.getElem_of_mem he
    exact HO.out j _ (by have:=HL.out; simp at hj; omega) (zg hj))]; rfl,zaa⟩
theorem zgV {L:List (List UInt8)} [hb:Blk w g t vs] (hv:vs=strs L) (hl:L.length=n) (hn:n < 2 ^ 40):
  Calls Tryz.prog 9 #[.slice (some ⟨g,0,none⟩) n c] w (PRet w (.bool (L.any fun x=>decide (60 < x.length)))):=by
 have hc:∀ (i:Nat) (x:List UInt8),L[i]?=some x -> ∀ w',Nxt w w' -> w'.cell? ⟨g,i,none⟩=some (str x):=by
  intro i x hx w' hn
  have hb':Blk w' g t vs:=Blk.nxt (h:=hn) (k:=hb)
  rw [Blk.cell (vs:=vs),hv]
  unfold strs
  simp [hx]
 have HC:=zc hc; have HN:=zc hn; have HL:=zc hl
 clear hc hn hl hv hb
 obtain ⟨B,hB⟩:∃ B,(L.any fun x=>decide (60 < x.length))=B:=⟨_,rfl⟩
 have HB:=zc hB
 rw [hB]
 clear hB
 go_enter Tryz.func9,Tryz.ntmps9
 go_wp2_with fail
 go_loopw [3] (fun s3 wr=>∃ i:Nat,s3 = .int .i64 (i:Int)/\i <= n/\(∀ (j:Nat) (y:List UInt8),j < i -> L[j]?=some y -> y.length <= 60)/\Nxt w wr) (fun s3 _=>n - (intOf s3).toNat)
 case atStart=>exact ⟨0,rfl,Nat.zero_le _,fun _ _ h=>absurd h (by omega),zaa⟩
 case round=>
  obtain ⟨i,rfl,hi,hok,hx0⟩:=hrel
  have HO:=zc hok
  clear hok
  by_cases hin:i < n
  ·have hlt : decide ((i : Int) < (n : Int)) = true := by simp; omega
   have hlt':(i:Int) < (n:Int):=by omega
   have hadd:IntKind.i64.wrap ((i:Int)+1)=((i+1:Nat):Int):=by have:=HN.out; rw [zx]; omega
   obtain ⟨x,hx⟩:∃ x,L[i]?=some x:=⟨L[i]'(by rw [HL.out]; exact hin),zg _⟩
   have k3:=HC.out i x hx wr hx0
   have HX:=zc hx
   clear hx
   by_cases hz:60 < x.length
   ·have d1 : decide ((60 : Int) < (x.length : Int)) = true := by simp; omega
    have d2:decide (60 < x.length)=true:=by simp; omega
    have HZ:=zc hz
    go_wp2_with fail
    go_ret
    exact ⟨by rw [<- HB.out,show (L.any fun x=>decide (60 < x.length))=true from List.any_eq_true.2 ⟨x,zk HX.out,by simpa using HZ.out⟩]; rfl,zaa⟩
   ·have d1 : decide ((60 : Int) < (x.length : Int)) = false := by simp; omega
    have d2:decide (60 < x.length)=false:=by simp; omega
    have HZ:=zc hz
    go_wp2_with fail
    go_roundw
    case rel=>exact ⟨i+1,rfl,hin,fun j y hj hy=>by
     rcases Nat.lt_or_ge j i with h | h
     ·exact HO.out j y h hy
     ·obtain rfl : j = i := by omega
      rw [HX.out] at hy
      obtain rfl:=zl hy
      have:=HZ.out; omega,zaa⟩
    case measure=>simp [intOf]; omega
  ·have hlt : decide ((i : Int) < (n : Int)) = false := by simp; omega
   have hlt':¬ (i:Int) < (n:Int):=by omega
   go_wp2_with fail
   go_ret
   exact ⟨by rw [<- HB.out,show (L.any fun x=>decide (60 < x.length))=false from List.any_eq_false.2 (fun x hx=>by
    obtain ⟨j,hj,rfl⟩:=List.getElem_of_mem hx
    have:=HO.out j _ (by have:=HL.out; omega) (zg hj)
    simp; omega)]; rfl,zaa⟩
end
def hullN (x0:Rat) (L:List Rat) (i:Nat):Rat × Rat:=hullF (x0,x0) ((L.drop 1).take (i - 1))
theorem zkD {x0 x:Rat} {L:List Rat} {i:Nat} (h1:1 <= i) (hx:L[i]?=some x):hullN x0 L (i+1)=hullS (hullN x0 L i) x:=by
 obtain ⟨j,rfl⟩:∃ j,i=j+1:=⟨i - 1,by omega⟩
 have h2:(L.drop 1)[j]?=some x:=by rw [List.getElem?_drop,Nat.add_comm,hx]
 show hullF _ ((L.drop 1).take (j+1))=hullS (hullF _ ((L.drop 1).take j)) x
 rw [List.take_add_one,h2]
 unfold hullF
 rw [List.foldl_append]
 rfl
theorem zlV {x0:Rat} {L:List Rat} {n:Nat} (h:L.length=n):hullN x0 L n=hullF (x0,x0) (L.drop 1):=by
 unfold hullN
 rw [List.take_of_length_le (by rw [List.length_drop]; omega)]
@[reducible,go_sem] def spanR (x:Rat × Rat):Value := .agg #[str (zad x.1),str (zad x.2)]
section
variable {g c n k:Nat} {t:TypeId} {vs:Array Value} {w:World}
theorem hull9_c {Q:List Rat} {x0:Rat} [hb:Blk w g t vs] (hv:vs=strs (Q.map zad)) (hl:Q.length=n) (hn:n < 2 ^ 40) (h0:Q[0]?=some x0) (hs:∀ q ∈ Q,Sz q k) (hk:k <= 2 ^ 15):
  Calls Tryz.prog 99 #[.slice (some ⟨g,0,none⟩) n c] w (PRet w (spanR (hullF (x0,x0) (Q.drop 1)))):=by
 have hc:∀ (i:Nat) (q:Rat),Q[i]?=some q -> vs[i]?=some (str (zad q)):=by
  intro i q hq
  rw [hv]
  unfold strs
  simp [hq]
 have HC:=zc hc; have HN:=zc hn; have HL:=zc hl; have HS:=zc hs; have HK:=zc hk
 have hnp:0 < n:=by
  rcases Nat.eq_zero_or_pos n with h | h
  ·rw [List.getElem?_eq_none (by omega)] at h0; cases h0
  ·exact h
 have HE:=zc (zlV (x0:=x0) hl)
 have k0:=hc 0 x0 h0
 have d0:Sz x0 k:=hs x0 (zk h0)
 have n0:decide (0 < n)=true:=by simpa using hnp
 have n1:(0:Int) < (n:Int):=by omega
 clear hc hn hl hs hk h0 hv
 go_enter Tryz.func99,Tryz.ntmps99
 go_wp2_with fail
 (refine Code.nameW ?_; intro W hW; go_region_held3 (fun w'=>ButO W [] w') (exact zab) (fail))
 all_goals (have hG0:NewIn W.heap.size (w.alloc (.cells #[str [],str []] 24)):=zbh)
 all_goals (obtain ⟨G,hG⟩:∃ G,W.heap.size=G:=⟨_,rfl⟩)
 all_goals rw [hG] at hG0
 all_goals go_wp2_with fail
 all_goals (
  rw [hG]
  go_loopw [4] (fun s4 wr=>∃ (i:Nat) (y:Rat × Rat),s4 = .int .i64 (i:Int)/\1 <= i/\i <= n/\y=hullN x0 Q i/\Sz y.1 k/\Sz y.2 k/\Blk wr G 24 #[str (zad y.1),str (zad y.2)]/\Blk wr w.heap.size 24 #[str [],str []]/\Nxt w wr) (fun s4 _=>n - (intOf s4).toNat)
  case atStart=>exact ⟨1,(x0,x0),rfl,by omega,by omega,rfl,d0,d0,by rw [<- hG]; infer_instance,za,zaa⟩
  case round=>
   obtain ⟨i,y,rfl,hi1,hi,hy,z1,z2,b1,b2,hx0⟩:=hrel
   have HY:=zc hy
   clear hy
   by_cases hin:i < n
   ·have hlt : decide ((i : Int) < (n : Int)) = true := by simp; omega
    have hlt':(i:Int) < (n:Int):=by omega
    have hadd:IntKind.i64.wrap ((i:Int)+1)=((i+1:Nat):Int):=by have:=HN.out; rw [zx]; omega
    obtain ⟨q,hq⟩:∃ q,Q[i]?=some q:=⟨Q[i]'(by rw [HL.out]; exact hin),zg _⟩
    have k3:=HC.out i q hq
    have z3:Sz q k:=HS.out q (zk hq)
    have HST:=zc (zkD (x0:=x0) hi1 hq)
    have HI:=zc (show 1 <= i/\i < n from ⟨hi1,hin⟩)
    clear hq hi1 hi hin
    go_wp2_with fail
    go_region_with ((first | (go_at_call 188; refine zf (zqe (p:=y.1) (q:=q) HK.out HK.out) ?_; rintro e w1 ⟨rfl,_⟩) | (go_at_call 189; refine zf (zqf (p:=y.2) (q:=q) HK.out HK.out) ?_; rintro e w1 ⟨rfl,_⟩)))
    all_goals go_wp2_with fail
    all_goals go_roundw
    all_goals first
    | exact ⟨i+1,(minQ y.1 q,maxQ y.2 q),rfl,by have:=HI.out; omega,by have:=HI.out; omega,by rw [HST.out,<- HY.out]; rfl,zpR z1 z3,zpS z2 z3,za,za,zaa⟩
    | (have:=HI.out; simp [intOf]; omega)
   ·have hlt : decide ((i : Int) < (n : Int)) = false := by simp; omega
    have hlt':¬ (i:Int) < (n:Int):=by omega
    obtain rfl:i=n:=by omega
    have hy:=HY.out
    rw [HE.out] at hy
    rw [<- hy]
    go_wp2_with fail
    all_goals simp [bodyPost,results,Tryz.results99,go_sem]
    all_goals exact ⟨rfl,zaa⟩)
end
section
variable {x y:Rat × Rat} {k:Nat} {w:World}
theorem zpM [d1:Sz x.1 k] [d2:Sz x.2 k] [d3:Sz y.1 k] [d4:Sz y.2 k] (hk:k <= 2 ^ 15):Calls Tryz.prog 29 #[spanR x,spanR y] w (PRet w (spanR (x.1+y.1,x.2+y.2))):=by
 have HK:=zc hk
 clear hk
 go_enter Tryz.func29,Tryz.ntmps29
 go_wp2_with fail
 (refine Code.nameW ?_; intro W hW; go_region_held3 (fun w'=>ButO W [w.heap.size+1+1] w') (exact zab) ((go_at_call 51; refine zf (zn9 HK.out HK.out) ?_; rintro e w1 ⟨rfl,_⟩)))
 all_goals go_wp2_with fail
 all_goals simp [bodyPost,results,Tryz.results29,go_sem]
 all_goals exact ⟨rfl,zaa⟩
theorem zjU [d1:Sz x.1 k] [d2:Sz x.2 k] [d3:Sz y.1 k] [d4:Sz y.2 k] (hk:k <= 2 ^ 15):Calls Tryz.prog 30 #[spanR x,spanR y] w (PRet w (spanR (x.1 - y.2,x.2 - y.1))):=by
 have HK:=zc hk
 clear hk
 go_enter Tryz.func30,Tryz.ntmps30
 go_wp2_with fail
 (refine Code.nameW ?_; intro W hW; go_region_held3 (fun w'=>ButO W [w.heap.size+1+1] w') (exact zab) ((go_at_call 98; refine zf (znS HK.out HK.out) ?_; rintro e w1 ⟨rfl,_⟩)))
 all_goals go_wp2_with fail
 all_goals simp [bodyPost,results,Tryz.results30,go_sem]
 all_goals exact ⟨rfl,zaa⟩
theorem zla {q:Rat}:Calls Tryz.prog 84 #[str (zad q)] w (PRet w (spanR (q,q))):=by
 go_enter Tryz.func84,Tryz.ntmps84
 go_wp2_with fail
 simp [bodyPost,results,Tryz.results84,go_sem]
 exact ⟨rfl,zaa⟩
theorem zpw {g c:Nat} {t:TypeId} {a b d e:Rat} [hb:Blk w g t #[str (zad a),str (zad b),str (zad d),str (zad e)]] [d1:Sz a k] [d2:Sz b k] [d3:Sz d k] [d4:Sz e k] (hk:k <= 2 ^ 15):
  Calls Tryz.prog 99 #[.slice (some ⟨g,0,none⟩) 4 c] w (PRet w (spanR (hullF (a,a) [b,d,e]))):=
 hull9_c (Q:=[a,b,d,e]) (x0:=a) (k:=k) (n:=4) rfl rfl (by omega) rfl (by
  intro q hq
  simp at hq
  rcases hq with rfl | rfl | rfl | rfl <;> assumption) hk
theorem zjB [d1:Sz x.1 k] [d2:Sz x.2 k] [d3:Sz y.1 k] [d4:Sz y.2 k] (hk:k <= 2 ^ 14):Calls Tryz.prog 31 #[spanR x,spanR y] w (PRet w (spanR (mulI x y))):=by
 have HK:=zc hk
 have HV:Hid (mulI x y=hullF (x.1 * y.1,x.1 * y.1) [x.1 * y.2,x.2 * y.1,x.2 * y.2]):=zc (zf3 _ _ _)
 have s1:Sz (x.1 * y.1) (k+k):=za
 have s2:Sz (x.1 * y.2) (k+k):=za
 have s3:Sz (x.2 * y.1) (k+k):=za
 have s4:Sz (x.2 * y.2) (k+k):=za
 clear hk
 go_enter Tryz.func31,Tryz.ntmps31
 go_wp2_with fail
 (refine Code.nameW ?_; intro W hW; go_region_held3 (fun w'=>ButO W [w.heap.size+1+1] w') (exact zab) (((first | (go_at_call 52; refine zf (zoh (by have:=HK.out; omega) (by have:=HK.out; omega)) ?_; rintro e w1 ⟨rfl,_⟩) | (go_at_call 99; refine zf (zpw (a:=x.1 * y.1) (b:=x.1 * y.2) (d:=x.2 * y.1) (e:=x.2 * y.2) (k:=k+k) (by have:=HK.out; omega)) ?_; rintro e w1 ⟨rfl,_⟩)))))
 all_goals go_wp2_with fail
 all_goals simp [bodyPost,results,Tryz.results31,go_sem]
 all_goals exact ⟨by rw [HV.out] <;> rfl,zaa⟩
def hasQ (x:Rat × Rat) (q:Rat):Bool:=decide (cmpQ x.1 q <= 0) && decide (cmpQ q x.2 <= 0)
theorem zlW {x:Rat × Rat}:hasQ x 0=hasZ x:=by
 cases h:hasZ x
 ·cases h2 : hasQ x 0
  ·rfl
  ·unfold hasQ at h2
   rw [Bool.and_eq_true,decide_eq_true_eq,decide_eq_true_eq,zga,zga] at h2
   rw [zgk.2 h2] at h; cases h
 ·have := zgk.1 h
  unfold hasQ
  rw [Bool.and_eq_true,decide_eq_true_eq,decide_eq_true_eq,zga,zga]
  exact this
theorem zoT {q:Rat} [d1:Sz x.1 k] [d2:Sz x.2 k] [d3:Sz q k] (hk:k <= 2 ^ 15):Calls Tryz.prog 32 #[spanR x,str (zad q)] w (PRet w (.bool (hasQ x q))):=by
 have HC1:Hid (∀ w,Calls _ _ _ w _):=zc (fun w=>ziA (p:=x.1) (q:=q) (w:=w) hk hk)
 have HC2:Hid (∀ w,Calls _ _ _ w _):=zc (fun w=>ziA (p:=q) (q:=x.2) (w:=w) hk hk)
 rw [zka] at HC1 HC2
 obtain ⟨c1,hc1⟩:∃ c,cmpQ x.1 q=c:=⟨_,rfl⟩
 obtain ⟨c2,hc2⟩:∃ c,cmpQ q x.2=c:=⟨_,rfl⟩
 have HV:Hid (hasQ x q=(decide (c1 <= 0) && decide (c2 <= 0))):=zc (by unfold hasQ; rw [hc1,hc2])
 rw [hc1] at HC1
 rw [hc2] at HC2
 clear hc1 hc2 hk
 by_cases h1:c1 <= 0
 ·have e1 : decide (c1 <= 0) = true := by simpa using h1
  go_enter Tryz.func32,Tryz.ntmps32
  go_wp2_with fail
  refine zf (HC1.out _) ?_
  rintro e w1 ⟨rfl,hx1⟩
  go_wp2_with fail
  refine zf (HC2.out _) ?_
  rintro e w2 ⟨rfl,hx2⟩
  go_wp2_with fail
  go_ret
  exact ⟨by rw [HV.out,e1]; rfl,zaa⟩
 ·have e1 : decide (c1 <= 0) = false := by simpa using h1
  go_enter Tryz.func32,Tryz.ntmps32
  go_wp2_with fail
  refine zf (HC1.out _) ?_
  rintro e w1 ⟨rfl,hx1⟩
  go_wp2_with fail
  go_ret
  exact ⟨by rw [HV.out,e1]; rfl,zaa⟩
end
class Ord2 (x:Rat × Rat):Prop where
 out:x.1 <= x.2
instance {x y:Rat × Rat}:Ord2 (mulI x y):=⟨by unfold mulI; rw [zf3]; exact zhb _ _ _⟩
instance {x y:Rat × Rat}:Ord2 (addI x y):=⟨by unfold addI; rw [zf3]; exact zhb _ _ _⟩
instance {x y:Rat × Rat}:Ord2 (subI x y):=⟨by unfold subI; rw [zf3]; exact zhb _ _ _⟩
instance {q:Rat}:Ord2 (q,q):=⟨Rat.le_refl⟩
theorem zk5 (x:Rat):0 <= x * x:=by
 rcases Rat.le_total (a:=0) (b:=x) with h | h
 ·exact Rat.mul_nonneg h h
 ·have := zhW h h
  rwa [Rat.zero_mul] at this
theorem mul_up {x:Rat × Rat}:x.1 * x.1 <= (mulI x x).2:=by
 unfold mulI
 rw [zf3]
 unfold four hullF
 simp only [List.foldl_cons,List.foldl_nil,hullS]
 exact Rat.le_trans zf9.1 (Rat.le_trans zf9.1 zf9.1)
instance {x:Rat × Rat} [h:Ord2 x]:Ord2 (sqI x):=⟨by
 rw [znT h.out]
 split
 ·exact Rat.le_trans (zk5 x.1) mul_up
 ·exact (za:Ord2 (mulI x x)).out⟩
@[reducible,go_sem] def bxR (x y:Rat × Rat):Value := .agg #[str (zad x.1),str (zad x.2),str (zad y.1),str (zad y.2)]
section
variable {x y:Rat × Rat} {k:Nat} {w:World}
theorem ziX [o1:Ord2 x] [o2:Ord2 y] [d1:Sz x.1 k] [d2:Sz x.2 k] [d3:Sz y.1 k] [d4:Sz y.2 k] (hk:k <= 2 ^ 15):Calls Tryz.prog 29 #[spanR x,spanR y] w (PRet w (spanR (addI x y))):=by
 rw [znK o1.out o2.out]
 exact zpM hk
theorem zm6 [o1:Ord2 x] [o2:Ord2 y] [d1:Sz x.1 k] [d2:Sz x.2 k] [d3:Sz y.1 k] [d4:Sz y.2 k] (hk:k <= 2 ^ 15):Calls Tryz.prog 30 #[spanR x,spanR y] w (PRet w (spanR (subI x y))):=by
 rw [zmO o1.out o2.out]
 exact zjU hk
theorem row2_c {g c:Nat} {t:TypeId} {a b:List UInt8} [hb:Blk w g t #[str a,str b]] (h1:a.length <= 2 ^ 19) (h2:b.length <= 2 ^ 19):
  Calls Tryz.prog 45 #[.slice (some ⟨g,0,none⟩) 2 c] w (PRet w (.int .i64 (zbx a b))):=by
 have h:=zjs (g:=g) (c:=c) (n:=2) (L:=[a,b]) (w:=w) rfl rfl (by omega) (by
  intro q hq
  simp at hq
  rcases hq with rfl | rfl <;> assumption)
 rw [show zay ([a,b].map readE)=zbx a b by
  show zay [readE a,readE b]=or2 (readE a) (readE b)
  unfold or2 zay zay zay
  split
  ·split <;> simp_all
  ·rfl] at h
 exact h
theorem zm9 {g c:Nat} {t:TypeId} {a b:Rat} [hb:Blk w g t #[str (zad a),str (zad b)]] [d1:Sz a k] [d2:Sz b k] (hk:k <= 2 ^ 15):
  Calls Tryz.prog 133 #[.slice (some ⟨g,0,none⟩) 2 c] w (PRet w (.int .i64 (wE2 (a,b)))):=by
 have h:=zgo (g:=g) (c:=c) (n:=2) (Q:=[a,b]) (k:=k) (w:=w) rfl rfl (by omega) (by
  intro q hq
  simp at hq
  rcases hq with rfl | rfl <;> assumption) hk
 rw [show zj0 [a,b]=wE2 (a,b) by
  show zay [wE a,wE b]=or2 (wE a) (wE b)
  unfold or2 zay zay zay
  split
  ·split <;> simp_all
  ·rfl] at h
 exact h
theorem zh4 [d1:Sz x.1 k] [d2:Sz x.2 k] (hk:k <= 2 ^ 15):Calls Tryz.prog 79 #[spanR x] w (PRet w (.int .i64 (wE2 x))):=by
 have HL:Hid (∀ (w:World) (g c:Nat) (t:TypeId) [Blk w g t #[str (zad x.1),str (zad x.2)]],Calls _ _ _ w _):=zc (fun w g c t _=>zm9 (w:=w) (g:=g) (c:=c) (t:=t) (a:=x.1) (b:=x.2) hk)
 obtain ⟨E,hE⟩:∃ E,wE2 x=E:=⟨_,rfl⟩
 rw [show wE2 (x.1,x.2)=E from hE] at HL
 rw [hE]
 clear hk hE
 go_enter Tryz.func79,Tryz.ntmps79
 go_wp2_with fail
 refine zf (HL.out _ _ _ _) ?_
 rintro e w1 ⟨rfl,hx1⟩
 go_wp2_with fail
 go_ret
 exact ⟨rfl,zaa⟩
end
section
variable {w:World} {a b c d:List UInt8}
theorem zgg (h1:a.length <= 2 ^ 19) (h2:b.length <= 2 ^ 19):Calls Tryz.prog 19 #[spv a b] w (PRet w (.int .i64 (spE a b))):=by
 have HR:Hid (∀ (w:World) (g c:Nat) (t:TypeId) [Blk w g t #[str a,str b]],Calls _ _ _ w _):=zc (fun w g c t _=>row2_c (w:=w) (g:=g) (c:=c) (t:=t) (a:=a) (b:=b) h1 h2)
 by_cases hE:zbx a b=0
 ·obtain ⟨e1, e2⟩ := zeT hE
  rw [hE] at HR
  have HC:Hid (∀ w,Calls _ _ _ w _):=zc (fun w=>ziA (p:=readQ a) (q:=readQ b) (a:=600) (b:=600) (w:=w) (by decide) (by decide))
  rw [zka,zf8 e1,zf8 e2] at HC
  obtain ⟨C,hC⟩:∃ C,cmpQ (readQ a) (readQ b)=C:=⟨_,rfl⟩
  have HV:Hid (spE a b=if 0 < C then 11 else 0):=zc (by unfold spE; rw [if_pos hE,hC])
  rw [hC] at HC
  clear hC h1 h2 hE e1 e2
  by_cases hp:0 < C
  ·have p1 : decide (0 < C) = true := by simpa using hp
   have HP:=zc hp
   clear hp
   go_enter Tryz.func19,Tryz.ntmps19
   go_wp2_with fail
   refine zf (HR.out _ _ _ _) ?_
   rintro e w1 ⟨rfl,hx1⟩
   go_wp2_with fail
   refine zf (HC.out _) ?_
   rintro e w2 ⟨rfl,hx2⟩
   go_wp2_with fail
   go_ret
   exact ⟨by rw [HV.out,if_pos HP.out]; rfl,zaa⟩
  ·have p1 : decide (0 < C) = false := by simpa using hp
   have HP:=zc hp
   clear hp
   go_enter Tryz.func19,Tryz.ntmps19
   go_wp2_with fail
   refine zf (HR.out _ _ _ _) ?_
   rintro e w1 ⟨rfl,hx1⟩
   go_wp2_with fail
   refine zf (HC.out _) ?_
   rintro e w2 ⟨rfl,hx2⟩
   go_wp2_with fail
   go_ret
   exact ⟨by rw [HV.out,if_neg (by have:=HP.out; omega)]; rfl,zaa⟩
 ·obtain ⟨E, hEE⟩ : ∃ E, zbx a b = E := ⟨_, rfl⟩
  have HV:Hid (spE a b=E):=zc (by unfold spE; rw [if_neg hE,hEE])
  rw [hEE] at HR hE
  have k1:(E == 0)=false:=by simpa using hE
  clear h1 h2 hE hEE
  go_enter Tryz.func19,Tryz.ntmps19
  go_wp2_with fail
  refine zf (HR.out _ _ _ _) ?_
  rintro e w1 ⟨rfl,hx1⟩
  go_wp2_with fail
  go_ret
  exact ⟨by rw [HV.out]; rfl,zaa⟩
end
theorem zgm:zad 0=[48]:=zey.2 rfl
section
variable {x y u v:Rat × Rat} {k:Nat} {w:World}
instance sqI_sz1 [h1:Sz x.1 k] [h2:Sz x.2 k]:Sz (sqI x).1 (k+k):=(zhF (za:Sz (x.1 * x.1) (k+k)) (za:Sz (x.2 * x.2) (k+k))).1
instance sqI_sz2 [h1:Sz x.1 k] [h2:Sz x.2 k]:Sz (sqI x).2 (k+k):=(zhF (za:Sz (x.1 * x.1) (k+k)) (za:Sz (x.2 * x.2) (k+k))).2
theorem zqU [d1:Sz x.1 k] [d2:Sz x.2 k] (h0:1 <= k) (hk:k <= 2 ^ 15):Calls Tryz.prog 32 #[spanR x,.string ⟨#[48]⟩] w (PRet w (.bool (hasZ x))):=by
 have d3:Sz (0:Rat) k:=⟨by rw [show (0:Rat).num=0 from rfl]; simp [zbE],by rw [show (0:Rat).den=1 from rfl,za1]; exact h0⟩
 have h:=zoT (x:=x) (q:=0) (k:=k) (w:=w) hk
 rw [zgm,zlW] at h
 exact h
theorem zk4 [o:Ord2 x] [d1:Sz x.1 k] [d2:Sz x.2 k] (h0:1 <= k) (hk:k <= 2 ^ 14):Calls Tryz.prog 21 #[spanR x] w (PRet w (spanR (sqI x))):=by
 have HT:Hid (∀ w,Calls _ _ _ w _):=zc (fun w=>zjB (x:=x) (y:=x) (k:=k) (w:=w) hk)
 have HH:Hid (∀ w,Calls _ _ _ w _):=zc (fun w=>zqU (x:=x) (k:=k) (w:=w) h0 (by omega))
 have hq:=znT o.out
 by_cases hz:hasZ x=true
 ·rw [if_pos hz] at hq
  have HV:Hid (sqI x=(0,(mulI x x).2)):=zc hq
  rw [hz] at HH
  clear hq hz hk
  go_enter Tryz.func21,Tryz.ntmps21
  go_wp2_with fail
  refine zf (HT.out _) ?_
  rintro e w1 ⟨rfl,hx1⟩
  go_wp2_with fail
  refine zf (HH.out _) ?_
  rintro e w2 ⟨rfl,hx2⟩
  go_wp2_with fail
  simp [bodyPost,results,Tryz.results21,go_sem]
  exact ⟨by rw [HV.out]; show _=Ending.returned (.agg #[str (zad 0),str (zad (mulI x x).2)]); rw [zgm] <;> rfl,zaa⟩
 ·rw [if_neg hz] at hq
  have HV:Hid (sqI x=mulI x x):=zc hq
  rw [show hasZ x=false by simpa using hz] at HH
  clear hq hz hk
  go_enter Tryz.func21,Tryz.ntmps21
  go_wp2_with fail
  refine zf (HT.out _) ?_
  rintro e w1 ⟨rfl,hx1⟩
  go_wp2_with fail
  refine zf (HH.out _) ?_
  rintro e w2 ⟨rfl,hx2⟩
  go_wp2_with fail
  simp [bodyPost,results,Tryz.results21,go_sem]
  exact ⟨by rw [HV.out] <;> rfl,zaa⟩
end
section
open Go.Sort Go.Lib
section
variable {w:World} {x y u v:Rat × Rat} {k:Nat} {s t s2 t2 s3 t3 s4 t4:RV}
end
section
variable {w:World} {a b c d e f g h:List UInt8}
end
section
variable {w:World} {x y:Rat × Rat} {k:Nat}
theorem zk7 {E:Int} {a b:List UInt8} (h:E ≠ 0):Calls Tryz.prog 16 #[spv [] [],.int .i64 E,.int .i64 E,spv a b] w (PRet w (.bool true)):=by
 have hb:(E == 0)=false:=by simpa using h
 have hb2:(E != 0)=true:=by simpa using h
 go_enter Tryz.func16,Tryz.ntmps16
 go_wp2_with fail
 go_ret
 exact ⟨rfl,zaa⟩
theorem zmR [d1:Sz x.1 k] [d2:Sz x.2 k] (hk:k <= 2 ^ 15):Calls Tryz.prog 16 #[spv (wLo x) (wHi x),.int .i64 (wE2 x),.int .i64 0,spanR x] w (PRet w (.bool true)):=by
 have HL:Hid (∀ w,Calls _ _ _ w _):=zc (fun w=>zh4 (x:=x) (k:=k) (w:=w) hk)
 by_cases hz:wE2 x=0
 ·obtain ⟨e1, e2⟩ := zeT hz
  have f1:wLo x=zad x.1:=by unfold wLo; rw [if_pos hz]; unfold wTxt; rw [if_pos]; unfold wE at e1; split at e1; assumption; cases e1
  have f2:wHi x=zad x.2:=by unfold wHi; rw [if_pos hz]; unfold wTxt; rw [if_pos]; unfold wE at e2; split at e2; assumption; cases e2
  rw [f1,f2,hz]
  rw [hz] at HL
  unfold spanR at HL ⊢
  generalize zad x.1=A at *
  generalize zad x.2=B at *
  clear hz e1 e2 f1 f2 hk
  go_enter Tryz.func16,Tryz.ntmps16
  go_wp2_with fail
  refine zf (HL.out _) ?_
  rintro e w1 ⟨rfl,hx1⟩
  go_wp2_with fail
  go_ret
  exact ⟨rfl,zaa⟩
 ·have f1 : wLo x = [] := if_neg hz
  have f2:wHi x=[]:=if_neg hz
  rw [f1,f2]
  obtain ⟨E,hE⟩:∃ E,wE2 x=E:=⟨_,rfl⟩
  rw [hE] at HL hz ⊢
  have hb:(E == 0)=false:=by simpa using hz
  have hb2:(E != 0)=true:=by simpa using hz
  unfold spanR at HL ⊢
  generalize zad x.1=A at *
  generalize zad x.2=B at *
  clear hz f1 f2 hE hk
  go_enter Tryz.func16,Tryz.ntmps16
  go_wp2_with fail
  refine zf (HL.out _) ?_
  rintro e w1 ⟨rfl,hx1⟩
  go_wp2_with fail
  go_ret
  exact ⟨rfl,zaa⟩
end
end
section
open Go.Sort Go.Lib
theorem rd_ok {l h:List UInt8} (hE:spE l h=0):zad (rdI l h).1=l/\zad (rdI l h).2=h/\Ord2 (rdI l h):=by
 unfold spE at hE
 split at hE
 ·rename_i h0
  obtain ⟨e1,e2⟩:=zeT h0
  split at hE
  ·cases hE
  ·rename_i hc
   exact ⟨zf8 e1,zf8 e2,⟨Rat.not_lt.1 (fun h=>hc (zf4.2 h))⟩⟩
 ·rename_i h0
  exact absurd hE h0
section
variable {a1 a2 a3 a4 b1 b2 b3 b4:List UInt8}
end
end
end Go.Proofs.YtombhkpniddceaaGreatDoor
