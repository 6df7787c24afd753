import Derived.Test.YtombhkpniddceaaGreatDoorQ47
import Derived.Test.YtombhkpniddceaaGreatDoorM43
set_option maxHeartbeats 25600000
set_option maxRecDepth 100000
set_option synthInstance.maxSize 20000
set_option linter.all false
namespace Go.Proofs.YtombhkpniddceaaGreatDoor
open List renaming getD_eq_getElem?_getD → zy0, getElem?_map → zy1
open Go.RowKit
def isum (n:Nat) (f:Nat -> Int):Int:=match n with
 | 0=>0
 | n+1=>isum n f+f n
theorem zq9 {n:Nat} {f g:Nat -> Int} (h:∀ i,i < n -> f i=g i):isum n f=isum n g:=by
 induction n with
 | zero=>rfl
 | succ n ih=>unfold isum; rw [ih (fun i hi=>h i (by omega)),h n (by omega)]
theorem zrm {n:Nat} {f:Nat -> Int} (h:∀ i,i < n -> f i=0):isum n f=0:=by
 induction n with
 | zero=>rfl
 | succ n ih=>unfold isum; rw [ih (fun i hi=>h i (by omega)),h n (by omega)]; rfl
theorem zrz (n:Nat) (f g:Nat -> Int):isum n (fun i=>f i+g i)=isum n f+isum n g:=by
 induction n with
 | zero=>rfl
 | succ n ih=>unfold isum; rw [ih]; omega
theorem zrc (n:Nat) (f:Nat -> Int) (a:Int):isum n (fun i=>a * f i)=a * isum n f:=by
 induction n with
 | zero=>exact (Int.mul_zero a).symm
 | succ n ih=>unfold isum; rw [ih,Int.mul_add]
theorem zs7 (n:Nat) (f:Nat -> Int):isum n (fun i => - f i) = - isum n f:=by
 induction n with
 | zero=>rfl
 | succ n ih=>unfold isum; rw [ih]; omega
theorem zsb (n m:Nat) (f:Nat -> Nat -> Int):isum n (fun i=>isum m (fun j=>f i j))=isum m (fun j=>isum n (fun i=>f i j)):=by
 induction n with
 | zero=>exact (zrm (fun i _=>rfl)).symm
 | succ n ih=>
  show isum n _+isum m _=isum m (fun j=>isum n (fun i=>f i j)+f n j)
  rw [ih,zrz]
theorem zrW (f:Nat -> Nat -> Int):∀ n,isum (n+1) (fun j=>isum n (fun l=>f j l))=isum (n+1) (fun b=>isum b (fun a=>f b a+f a (b - 1)))
 | 0=>rfl
 | n+1=>by
  have ih:=zrW f n
  have h1:isum (n+1+1) (fun j=>isum (n+1) (fun l=>f j l))=isum (n+1) (fun j=>isum n (fun l=>f j l))+isum (n+1) (fun j=>f j n)+isum (n+1) (fun l=>f (n+1) l):=by
   show isum (n+1) (fun j=>isum n (fun l=>f j l)+f j n)+isum (n+1) (fun l=>f (n+1) l)=_
   rw [zrz]
  have h2:isum (n+1+1) (fun b=>isum b (fun a=>f b a+f a (b - 1)))=isum (n+1) (fun b=>isum b (fun a=>f b a+f a (b - 1)))+(isum (n+1) (fun a=>f (n+1) a)+isum (n+1) (fun a=>f a n)):=by
   show isum (n+1) _+isum (n+1) (fun a=>f (n+1) a+f a n)=_
   rw [zrz]
  rw [h1,h2,ih]; omega
def skipC (j c:Nat):Nat:=if c < j then c else c+1
def altS:Nat -> Int
 | 0=>1
 | n+1 => - altS n
theorem zrU:∀ n,altS n * altS n=1
 | 0=>rfl
 | n+1=>by show (- altS n) * (- altS n)=1; rw [Int.neg_mul_neg]; exact zrU n
theorem zr4 (a:Nat):∀ b,altS (a+b)=altS a * altS b
 | 0=>by show altS a=altS a * 1; omega
 | b+1=>by show - altS (a+b)=altS a * (- altS b); rw [zr4 a b,Int.mul_neg]
def detZ:Nat -> (Nat -> Nat -> Int) -> Int
 | 0,_=>1
 | k+1,M=>isum (k+1) (fun j=>altS j * M 0 j * detZ k (fun r c=>M (r+1) (skipC j c)))
theorem zrq:∀ {k:Nat} {M N:Nat -> Nat -> Int},(∀ r c,r < k -> c < k -> M r c=N r c) -> detZ k M=detZ k N
 | 0,_,_,_=>rfl
 | k+1,M,N,h=>by
  unfold detZ
  refine zq9 fun j hj=>?_
  rw [h 0 j (by omega) hj,zrq (M:=fun r c=>M (r+1) (skipC j c)) (N:=fun r c=>N (r+1) (skipC j c)) fun r c hr hc=>h _ _ (by omega) (by unfold skipC; split <;> omega)]
def setRow (M:Nat -> Nat -> Int) (i:Nat) (v:Nat -> Int):Nat -> Nat -> Int:=fun r c=>if r=i then v c else M r c
theorem zru:∀ {k:Nat} (M:Nat -> Nat -> Int) (i:Nat) (u v:Nat -> Int),i < k -> detZ k (setRow M i (fun c=>u c+v c))=detZ k (setRow M i u)+detZ k (setRow M i v)
 | 0,_,_,_,_,h=>by omega
 | k+1,M,0,u,v,_=>by
  unfold detZ
  rw [<- zrz]
  refine zq9 fun j hj=>?_
  have e:∀ w:Nat -> Int,(fun r c=>setRow M 0 w (r+1) (skipC j c))=fun r c=>M (r+1) (skipC j c):=fun w=>by
   funext r c; unfold setRow; rw [if_neg (by omega)]
  rw [e,e,e]
  unfold setRow
  rw [if_pos rfl,if_pos rfl,if_pos rfl,Int.mul_add,Int.add_mul]
 | k+1,M,i+1,u,v,h=>by
  unfold detZ
  rw [<- zrz]
  refine zq9 fun j hj=>?_
  have e:∀ w:Nat -> Int,(fun r c=>setRow M (i+1) w (r+1) (skipC j c))=setRow (fun r c=>M (r+1) (skipC j c)) i (fun c=>w (skipC j c)):=fun w=>by
   funext r c; unfold setRow
   by_cases hr:r=i
   ·rw [if_pos (by omega),if_pos hr]
   ·rw [if_neg (by omega),if_neg hr]
  rw [e,e,e,zru (fun r c=>M (r+1) (skipC j c)) i (fun c=>u (skipC j c)) (fun c=>v (skipC j c)) (by omega)]
  have e0:∀ w:Nat -> Int,setRow M (i+1) w 0 j=M 0 j:=fun w=>by unfold setRow; rw [if_neg (by omega)]
  rw [e0,e0,e0,Int.mul_add]
theorem zsh {a b c:Nat} (h:a < b):skipC a (skipC (b - 1) c)=skipC b (skipC a c):=by
 unfold skipC
 repeat' split
 all_goals omega
theorem zsN {k:Nat} {M:Nat -> Nat -> Int} (h:∀ c,c < k+2 -> M 0 c=M 1 c):detZ (k+2) M=0:=by
 have e:detZ (k+2) M=isum (k+1+1) (fun j=>isum (k+1) (fun l=>altS j * M 0 j * (altS l * M 1 (skipC j l) * detZ k (fun r c=>M (r+2) (skipC j (skipC l c)))))):=by
  show isum (k+2) _=_
  refine zq9 fun j hj=>?_
  show altS j * M 0 j * isum (k+1) (fun l=>altS l * M 1 (skipC j l) * detZ k (fun r c=>M (r+2) (skipC j (skipC l c))))=_
  rw [<- zrc]
 rw [e,zrW]
 refine zrm fun b hb=>zrm fun a ha=>?_
 have s1:skipC b a=a:=by unfold skipC; rw [if_pos ha]
 have s2:skipC a (b - 1)=b:=by unfold skipC; rw [if_neg (by omega)]; omega
 rw [s1,s2]
 have s3:(fun r c=>M (r+2) (skipC a (skipC (b - 1) c)))=fun r c=>M (r+2) (skipC b (skipC a c)):=by
  funext r c; rw [zsh ha]
 rw [s3,<- h a (by omega),<- h b (by omega)]
 have s4:altS b = - altS (b - 1):=by
  obtain ⟨d,rfl⟩:∃ d,b=d+1:=⟨b - 1,by omega⟩
  rfl
 rw [s4]
 grind
theorem zrH:∀ {k:Nat} {M:Nat -> Nat -> Int} (i:Nat),i+1 < k -> (∀ c,c < k -> M i c=M (i+1) c) -> detZ k M=0
 | 0,_,_,h,_=>by omega
 | 1,_,_,h,_=>by omega
 | k+2,M,0,_,h=>zsN h
 | k+2,M,i+1,hi,h=>by
  unfold detZ
  refine zrm fun j hj=>?_
  rw [zrH (k:=k+1) i (by omega) (fun c hc=>h _ (by unfold skipC; split <;> omega)),Int.mul_zero]
theorem setRow_self (M:Nat -> Nat -> Int) (i:Nat):setRow M i (M i)=M:=by
 funext r c; unfold setRow; split
 ·rename_i h; rw [h]
 ·rfl
theorem zrr {M:Nat -> Nat -> Int} {i j:Nat} {u v:Nat -> Int} (h:i ≠ j):setRow (setRow M i u) j v=setRow (setRow M j v) i u:=by
 funext r c; unfold setRow
 by_cases h1:r=i
 ·subst h1; rw [if_neg h,if_pos rfl,if_pos rfl]
 ·by_cases h2 : r = j
  ·rw [if_pos h2,if_neg h1,if_pos h2]
  ·rw [if_neg h2,if_neg h1,if_neg h1,if_neg h2]
theorem zsM {k:Nat} (M:Nat -> Nat -> Int) (i:Nat) (hi:i+1 < k) (u v:Nat -> Int):detZ k (setRow (setRow M i u) (i+1) v) = - detZ k (setRow (setRow M i v) (i+1) u):=by
 have z:∀ w:Nat -> Int,detZ k (setRow (setRow M i w) (i+1) w)=0:=fun w=>zrH i hi (fun c _=>by
  unfold setRow; rw [if_neg (by omega),if_pos rfl,if_pos rfl])
 have h:=z (fun c=>u c+v c)
 rw [zru _ _ _ _ hi] at h
 have e:∀ x:Nat -> Int,detZ k (setRow (setRow M i (fun c=>u c+v c)) (i+1) x)=detZ k (setRow (setRow M i u) (i+1) x)+detZ k (setRow (setRow M i v) (i+1) x):=fun x=>by
  rw [zrr (by omega),zru _ _ _ _ (by omega),zrr (by omega),zrr (i:=i+1) (by omega)]
 rw [e,e,z,z] at h
 omega
def zrh (M:Nat -> Nat -> Int) (i:Nat):Nat -> Nat -> Int:=fun r c=>if r=0 then M i c else if r <= i then M (r - 1) c else M r c
theorem zrp {k:Nat}:∀ (i:Nat) (M:Nat -> Nat -> Int),i < k -> detZ k (zrh M i)=altS i * detZ k M
 | 0,M,_=>by
  rw [show zrh M 0=M by funext r c; unfold zrh; split; (rename_i h; rw [h]); split; (exfalso; omega); rfl]
  show _=1 * _; rw [Int.one_mul]
 | i+1,M,h=>by
  have h1:=zsM M i h (M (i+1)) (M i)
  rw [show setRow (setRow M i (M i)) (i+1) (M (i+1))=M by rw [setRow_self,setRow_self]] at h1
  have h2:=zrp (k:=k) i (setRow (setRow M i (M (i+1))) (i+1) (M i)) (by omega)
  have e:zrh (setRow (setRow M i (M (i+1))) (i+1) (M i)) i=zrh M (i+1):=by
   funext r c
   unfold zrh setRow
   repeat' split
   all_goals first | rfl | (exfalso; omega) | (congr 1; omega)
  rw [e,h1] at h2
  rw [h2]
  show altS i * - detZ k M = - altS i * detZ k M
  rw [Int.mul_neg,Int.neg_mul]
theorem zrR {k:Nat} {M:Nat -> Nat -> Int} {i j:Nat} (hij:i < j) (hj:j < k) (h:∀ c,c < k -> M i c=M j c):detZ k M=0:=by
 have h1:=zrp j M hj
 have h2:=zrp (k:=k) (i+1) (zrh M j) (by omega)
 have h3:detZ k (zrh (zrh M j) (i+1))=0:=by
  refine zrH 0 (by omega) (fun c hc=>?_)
  have h4:=h c hc
  show (if (i+1:Nat)=0 then M j c else if i+1 <= j then M i c else M (i+1) c)=(if (0:Nat)=0 then M j c else if 0 <= j then M (0 - 1) c else M 0 c)
  rw [if_neg (by omega),if_pos (by omega),if_pos rfl]
  exact h4
 rw [h2,h1] at h3
 have a:=zrU (i+1); have b:=zrU j
 have:altS (i+1) * (altS (i+1) * (altS j * (altS j * detZ k M)))=0:=by
  rw [show altS (i+1) * (altS (i+1) * (altS j * (altS j * detZ k M)))=(altS (i+1) * (altS j * detZ k M)) * (altS (i+1) * altS j) by grind,h3,Int.zero_mul]
 rw [<- Int.mul_assoc,a,Int.one_mul,<- Int.mul_assoc,b,Int.one_mul] at this
 exact this
def adjZ (k:Nat) (M:Nat -> Nat -> Int) (i m:Nat):Int:=altS (i+m) * detZ (k - 1) (fun r c=>M (skipC m r) (skipC i c))
theorem zta {k:Nat} (M:Nat -> Nat -> Int) {l m:Nat} (hl:l < k) (hm:m < k):isum k (fun i=>M l i * adjZ k M i m)=if l=m then detZ k M else 0:=by
 obtain ⟨n,rfl⟩:∃ n,k=n+1:=⟨k - 1,by omega⟩
 have h1:=zrp m (setRow M m (M l)) hm
 have h2:detZ (n+1) (zrh (setRow M m (M l)) m)=isum (n+1) (fun j=>altS j * M l j * detZ n (fun r c=>M (skipC m r) (skipC j c))):=by
  show isum (n+1) _=_
  refine zq9 fun j hj=>?_
  have e:(fun r c=>zrh (setRow M m (M l)) m (r+1) (skipC j c))=fun r c=>M (skipC m r) (skipC j c):=by
   funext r c
   unfold zrh setRow
   rw [if_neg (by omega)]
   by_cases h:r < m
   ·rw [if_pos (by omega), if_neg (by omega)]
    unfold skipC; rw [if_pos h]; rfl
   ·rw [if_neg (by omega), if_neg (by omega)]
    unfold skipC; rw [if_neg h]
  rw [e]
  unfold zrh setRow
  rw [if_pos rfl,if_pos rfl]
 have h3:isum (n+1) (fun i=>M l i * adjZ (n+1) M i m)=altS m * detZ (n+1) (zrh (setRow M m (M l)) m):=by
  rw [h2,<- zrc]
  refine zq9 fun j hj=>?_
  unfold adjZ
  rw [zr4]
  show M l j * (altS j * altS m * detZ n _)=_
  grind
 rw [h3,h1,<- Int.mul_assoc,zrU,Int.one_mul]
 split
 ·rename_i h; rw [h,setRow_self]
 ·rename_i h
  rcases Nat.lt_or_ge l m with h4 | h4
  ·exact zrR h4 hm (fun c _=>by unfold setRow; rw [if_neg (by omega),if_pos rfl])
  ·exact zrR (i:=m) (j:=l) (by omega) hl (fun c _=>by unfold setRow; rw [if_pos rfl,if_neg (by omega)])
theorem zsQ {n:Nat} {M:Nat -> Nat -> Int}:adjZ (n+1) M n n=detZ n M:=by
 unfold adjZ
 rw [zr4,zrU,Int.one_mul]
 exact zrq fun r c hr hc=>by unfold skipC; rw [if_pos (by omega),if_pos (by omega)]
theorem zrF {n m:Nat} (hm:m < n) (f:Nat -> Int) (a:Int):isum n (fun i=>f i * (if i=m then a else 0))=f m * a:=by
 induction n with
 | zero=>omega
 | succ n ih=>
  unfold isum
  by_cases h:n=m
  ·subst h
   rw [if_pos rfl,zrm (fun i hi=>by rw [if_neg (by omega),Int.mul_zero]),Int.zero_add]
  ·rw [if_neg h,ih (by omega),Int.mul_zero,Int.add_zero]
theorem zsk {n m:Nat} (hm:m < n) (f:Nat -> Int) (a:Int):isum n (fun i=>(if m=i then a else 0) * f i)=a * f m:=by
 rw [<- Int.mul_comm (f m) a,<- zrF hm f a]
 exact zq9 fun i _=>by
  rw [Int.mul_comm]
  by_cases h:m=i
  ·rw [if_pos h,if_pos h.symm]
  ·rw [if_neg h,if_neg (fun e=>h e.symm)]
theorem zry (n:Nat) (f:Nat -> Int) (a:Int):isum n (fun i=>f i * a)=isum n f * a:=by
 rw [Int.mul_comm,<- zrc]; exact zq9 fun i _=>Int.mul_comm _ _
theorem zsv (n:Nat) (f g:Nat -> Int):isum n (fun i=>f i - g i)=isum n f - isum n g:=by
 induction n with
 | zero=>rfl
 | succ n ih=>unfold isum; rw [ih]; omega
theorem zto {k:Nat} {N A R:Nat -> Nat -> Int} {q:Nat -> Nat} {D e:Int} {p:Nat} {t:Nat -> Int}
  (he:e * e=1) (hD:D=e * detZ k (fun l m=>N l (q m))) (hD0:D ≠ 0) (hR:∀ i,i < k -> ∀ j,R i j=isum k (fun l=>A i l * N l j))
  (hP:∀ i m,i < k -> m < k -> R i (q m)=if i=m then D else 0) (ht:∀ j,t j=D * N k j - isum k (fun i=>N k (q i) * R i j)) (htp:t p ≠ 0):
  ∃ A':Nat -> Nat -> Int,t p=e * detZ (k+1) (fun l m=>N l (if m < k then q m else p))/\(∀ i,i < k -> ∀ j,R i j * t p - t j * R i p=D * isum (k+1) (fun l=>A' i l * N l j))/\∀ j,t j=isum (k+1) (fun l=>A' k l * N l j):=by
 obtain ⟨T,hT⟩:∃ T:Nat -> Int,T=fun l=>if l=k then D else - isum k (fun i=>N k (q i) * A i l):=⟨_,rfl⟩
 have hTk:T k=D:=by rw [hT]; exact if_pos rfl
 have ht2:∀ j,t j=isum (k+1) (fun l=>T l * N l j):=fun j=>by
  show t j=isum k (fun l=>T l * N l j)+T k * N k j
  rw [hTk,ht j]
  have e1:isum k (fun l=>T l * N l j) = - isum k (fun i=>N k (q i) * R i j):=by
   have e2:isum k (fun i=>N k (q i) * R i j)=isum k (fun i=>isum k (fun l=>N k (q i) * A i l * N l j)):=zq9 fun i hi=>by
    rw [hR i hi j,<- zrc]; exact zq9 fun l _=>by rw [Int.mul_assoc]
   rw [e2,zsb,<- zs7]
   exact zq9 fun l hl=>by
    rw [hT]; show (if l=k then D else _) * N l j=_
    rw [if_neg (by omega),zry,Int.neg_mul]
  rw [e1]; omega
 obtain ⟨C,hC⟩:∃ C:Nat -> Nat -> Int,C=fun i l=>if i=k then D * T l else (if l=k then 0 else A i l) * t p - R i p * T l:=⟨_,rfl⟩
 have hS:∀ i,i < k -> ∀ j,R i j * t p - t j * R i p=isum (k+1) (fun l=>C i l * N l j):=fun i hi j=>by
  have e1:isum (k+1) (fun l=>C i l * N l j)=isum (k+1) (fun l=>(if l=k then 0 else A i l) * N l j * t p - R i p * (T l * N l j)):=zq9 fun l _=>by
   rw [hC]; show (if i=k then _ else _) * N l j=_
   rw [if_neg (by omega)]; grind
  have e2:isum (k+1) (fun l=>(if l=k then 0 else A i l) * N l j)=R i j:=by
   show isum k _+(if k=k then 0 else A i k) * N k j=_
   rw [if_pos rfl,Int.zero_mul,Int.add_zero,hR i hi j]
   exact zq9 fun l hl=>by rw [if_neg (by omega)]
  rw [e1,zsv,zry,e2,zrc,<- ht2]; grind
 have hSk:∀ j,D * t j=isum (k+1) (fun l=>C k l * N l j):=fun j=>by
  rw [ht2 j,<- zrc]
  exact zq9 fun l _=>by rw [hC]; show _=(if k=k then _ else _) * _; rw [if_pos rfl,Int.mul_assoc]
 have htq:∀ m,m < k -> t (q m)=0:=fun m hm=>by
  rw [ht (q m),zq9 (g:=fun i=>N k (q i) * (if i=m then D else 0)) (fun i hi=>by rw [hP i m hi hm]),zrF hm]
  grind
 have hX:∀ i m,i < k+1 -> m < k+1 -> isum (k+1) (fun l=>C i l * N l (if m < k then q m else p))=if i=m then D * t p else 0:=fun i m hi hm=>by
  by_cases hik:i=k
  ·subst hik
   rw [<- hSk]
   by_cases hmk:m < i
   ·rw [if_pos hmk,htq m hmk,if_neg (by omega),Int.mul_zero]
   ·rw [if_neg hmk,if_pos (by omega)]
  ·rw [<- hS i (by omega)]
   by_cases hmk:m < k
   ·rw [if_pos hmk, htq m hmk, Int.zero_mul, hP i m (by omega) hmk]
    split <;> grind
   ·rw [if_neg hmk,if_neg (by omega)]; grind
 obtain ⟨B,hB⟩:∃ B:Nat -> Nat -> Int,B=fun l m=>N l (if m < k then q m else p):=⟨_,rfl⟩
 have key:∀ i m,i < k+1 -> m < k+1 -> C i m * detZ (k+1) B=D * t p * adjZ (k+1) B i m:=fun i m hi hm=>by
  have e1:isum (k+1) (fun n=>isum (k+1) (fun l=>C i l * B l n) * adjZ (k+1) B n m)=D * t p * adjZ (k+1) B i m:=by
   rw [zq9 (g:=fun n=>(if i=n then D * t p else 0) * adjZ (k+1) B n m) (fun n hn=>by
    rw [hB]; show isum (k+1) (fun l=>C i l * N l (if n < k then q n else p)) * _=_
    rw [hX i n hi hn]),zsk hi]
  have e2:isum (k+1) (fun n=>isum (k+1) (fun l=>C i l * B l n) * adjZ (k+1) B n m)=isum (k+1) (fun l=>C i l * (if l=m then detZ (k+1) B else 0)):=by
   rw [zq9 (g:=fun n=>isum (k+1) (fun l=>C i l * B l n * adjZ (k+1) B n m)) (fun n _=>(zry _ _ _).symm),zsb]
   refine zq9 fun l hl=>?_
   rw [<- zta B hl hm,<- zrc]
   exact zq9 fun n _=>by rw [Int.mul_assoc]
  rw [<- e1,e2,zrF hm]
 have hdt:t p=e * detZ (k+1) B:=by
  have h1:=key k k (by omega) (by omega)
  have h2:C k k=D * D:=by rw [hC]; show (if k=k then D * T k else _)=_; rw [if_pos rfl,hTk]
  have h3:adjZ (k+1) B k k=e * D:=by
   rw [zsQ,hD,<- Int.mul_assoc,he,Int.one_mul,hB]
   exact zrq fun r c _ hc=>by show N r (if c < k then q c else p)=_; rw [if_pos hc]
  rw [h2,h3] at h1
  have h4:D * (D * (detZ (k+1) B))=D * (D * (t p * e)):=by grind
  have h5:=Int.eq_of_mul_eq_mul_left hD0 (Int.eq_of_mul_eq_mul_left hD0 h4)
  rw [h5,Int.mul_comm e,Int.mul_assoc,he,Int.mul_one]
 have hCA:∀ i m,i < k+1 -> m < k+1 -> C i m=D * (e * adjZ (k+1) B i m):=fun i m hi hm=>by
  have h1:=key i m hi hm
  have h2:t p * C i m=t p * (D * (e * adjZ (k+1) B i m)):=by
   have:t p * C i m=e * (C i m * detZ (k+1) B):=by rw [hdt]; grind
   rw [this,h1]; grind
  exact Int.eq_of_mul_eq_mul_left htp h2
 refine ⟨fun i l=>e * adjZ (k+1) B i l,by rw [hdt,hB],fun i hi j=>?_,fun j=>?_⟩
 ·rw [hS i hi j, <- zrc]
  exact zq9 fun l hl=>by rw [hCA i l (by omega) hl,Int.mul_assoc]
 ·have h1 := hSk j
  rw [zq9 (g:=fun l=>D * (e * adjZ (k+1) B k l * N l j)) (fun l hl=>by rw [hCA k l (by omega) hl,Int.mul_assoc]),zrc] at h1
  exact Int.eq_of_mul_eq_mul_left hD0 h1
def rsum (n:Nat) (f:Nat -> Rat):Rat:=match n with
 | 0=>0
 | n+1=>rsum n f+f n
theorem rsum_congr {n:Nat} {f g:Nat -> Rat} (h:∀ i,i < n -> f i=g i):rsum n f=rsum n g:=by
 induction n with
 | zero=>rfl
 | succ n ih=>unfold rsum; rw [ih (fun i hi=>h i (by omega)),h n (by omega)]
theorem zrb {n:Nat} {f:Nat -> Rat} (h:∀ i,i < n -> f i=0):rsum n f=0:=by
 induction n with
 | zero=>rfl
 | succ n ih=>unfold rsum; rw [ih (fun i hi=>h i (by omega)),h n (by omega),Rat.add_zero]
theorem zrw (n:Nat) (f g:Nat -> Rat):rsum n (fun i=>f i+g i)=rsum n f+rsum n g:=by
 induction n with
 | zero=>exact (Rat.add_zero 0).symm
 | succ n ih=>unfold rsum; rw [ih]; grind
theorem zrj (n:Nat) (f:Nat -> Rat) (a:Rat):rsum n (fun i=>a * f i)=a * rsum n f:=by
 induction n with
 | zero=>exact (Rat.mul_zero a).symm
 | succ n ih=>unfold rsum; rw [ih,Rat.mul_add]
theorem zrf (n:Nat) (f:Nat -> Rat) (a:Rat):rsum n (fun i=>f i * a)=rsum n f * a:=by
 rw [Rat.mul_comm,<- zrj]; exact rsum_congr fun i _=>Rat.mul_comm _ _
theorem zrl (n m:Nat) (f:Nat -> Nat -> Rat):rsum n (fun i=>rsum m (fun j=>f i j))=rsum m (fun j=>rsum n (fun i=>f i j)):=by
 induction n with
 | zero=>exact (zrb (fun i _=>rfl)).symm
 | succ n ih=>
  show rsum n _+rsum m _=rsum m (fun j=>rsum n (fun i=>f i j)+f n j)
  rw [ih,zrw]
theorem zra {n m:Nat} (hm:m < n) (f:Nat -> Rat) (a:Rat):rsum n (fun i=>f i * (if i=m then a else 0))=f m * a:=by
 induction n with
 | zero=>omega
 | succ n ih=>
  unfold rsum
  by_cases h:n=m
  ·subst h
   rw [if_pos rfl,zrb (fun i hi=>by rw [if_neg (by omega),Rat.mul_zero]),Rat.zero_add]
  ·rw [if_neg h,ih (by omega),Rat.mul_zero,Rat.add_zero]
theorem zsW (n:Nat) (f:Nat -> Rat):rsum n (fun i => - f i) = - rsum n f:=by
 induction n with
 | zero=>exact Rat.neg_zero.symm
 | succ n ih=>unfold rsum; rw [ih]; grind
def InSp (n k:Nat) (E:Nat -> Nat -> Rat) (v:Nat -> Rat):Prop:=∃ c:Nat -> Rat,∀ j,j < n -> v j=rsum k (fun i=>c i * E i j)
theorem zsw {n k i:Nat} {E:Nat -> Nat -> Rat} (hi:i < k):InSp n k E (E i):=⟨fun m=>if m=i then 1 else 0,fun j _=>by
 have h:=zra hi (fun m=>E m j) 1
 rw [Rat.mul_one] at h
 rw [<- h]
 exact rsum_congr fun m _=>Rat.mul_comm _ _⟩
theorem zre {n k m:Nat} {E F:Nat -> Nat -> Rat} (h:∀ i,i < k -> InSp n m F (E i)) {v:Nat -> Rat} (hv:InSp n k E v):InSp n m F v:=by
 obtain ⟨c,hc⟩:=hv
 have h2:∀ i,∃ d:Nat -> Rat,i < k -> ∀ j,j < n -> E i j=rsum m (fun l=>d l * F l j):=fun i=>by
  by_cases hi:i < k
  ·obtain ⟨d,hd⟩:=h i hi; exact ⟨d,fun _=>hd⟩
  ·exact ⟨fun _=>0,fun h3=>absurd h3 hi⟩
 refine ⟨fun l=>rsum k (fun i=>c i * (Classical.choose (h2 i)) l),fun j hj=>?_⟩
 rw [hc j hj,rsum_congr (g:=fun i=>rsum m (fun l=>c i * (Classical.choose (h2 i)) l * F l j)) (fun i hi=>by
  conv=>lhs; rw [Classical.choose_spec (h2 i) hi j hj,<- zrj]
  exact rsum_congr fun l _=>by rw [Rat.mul_assoc]),zrl]
 exact rsum_congr fun l _=>zrf _ _ _
structure Rre (n k:Nat) (E:Nat -> Nat -> Rat) (p:Nat -> Nat):Prop where
 lt:∀ i,i < k -> p i < n
 inc:∀ i m,i < m -> m < k -> p i < p m
 one:∀ i m,i < k -> m < k -> E i (p m)=if i=m then 1 else 0
 low:∀ i,i < k -> ∀ j,j < p i -> E i j=0
theorem Rre.coef {n k:Nat} {E:Nat -> Nat -> Rat} {p:Nat -> Nat} (h:Rre n k E p) {v c:Nat -> Rat} (hv:∀ j,j < n -> v j=rsum k (fun i=>c i * E i j)) {m:Nat} (hm:m < k):c m=v (p m):=by
 rw [hv _ (h.lt m hm),rsum_congr (g:=fun i=>c i * (if i=m then 1 else 0)) (fun i hi=>by rw [h.one i m hi hm]),zra hm,Rat.mul_one]
theorem Rre.spans {n k:Nat} {E:Nat -> Nat -> Rat} {p:Nat -> Nat} (h:Rre n k E p) {v:Nat -> Rat} (hv:InSp n k E v):∀ j,j < n -> v j=rsum k (fun i=>v (p i) * E i j):=fun j hj=>by
 obtain ⟨c,hc⟩:=hv
 rw [hc j hj]
 exact rsum_congr fun i hi=>by rw [h.coef hc hi,hc _ (h.lt i hi)]
theorem zsa {P:Nat -> Prop} [DecidablePred P]:∀ {n:Nat},P n -> ∃ m,m <= n/\P m/\∀ i,i < m -> ¬ P i
 | 0,h=>⟨0,by omega,h,fun i hi=>by omega⟩
 | n+1,h=>by
  by_cases hx:∃ i,i <= n/\P i
  ·obtain ⟨i, hi, hp⟩ := hx
   obtain ⟨m,hm,h1,h2⟩:=zsa hp
   exact ⟨m,by omega,h1,h2⟩
  ·exact ⟨n+1,by omega,h,fun i hi hp=>hx ⟨i,by omega,hp⟩⟩
termination_by n=>n
decreasing_by omega
theorem Rre.lead {n k:Nat} {E:Nat -> Nat -> Rat} {p:Nat -> Nat} (h:Rre n k E p) {v:Nat -> Rat} (hv:InSp n k E v) {s:Nat} (hs:s < n) (h1:v s ≠ 0) (h0:∀ j,j < s -> v j=0):∃ m,m < k/\p m=s:=by
 have hsp:=h.spans hv
 have hex:∃ m,m < k/\v (p m) ≠ 0:=by
  apply Classical.byContradiction
  intro hno
  apply h1
  rw [hsp s hs]
  exact zrb fun i hi=>by
   have:v (p i)=0:=Classical.byContradiction fun hc=>hno ⟨i,hi,hc⟩
   rw [this,Rat.zero_mul]
 obtain ⟨m1,hm1,hv1⟩:=hex
 obtain ⟨m,hmle,⟨hm,hvm⟩,hmin⟩:=zsa (P:=fun m=>m < k/\v (p m) ≠ 0) (n:=m1) ⟨hm1,hv1⟩
 refine ⟨m,hm,?_⟩
 rcases Nat.lt_trichotomy (p m) s with h2 | h2 | h2
 ·exact absurd (h0 _ h2) hvm
 ·exact h2
 ·exfalso; apply h1
  rw [hsp s hs]
  exact zrb fun i hi=>by
   rcases Nat.lt_or_ge i m with h3 | h3
   ·have : v (p i) = 0 := Classical.byContradiction fun hc => hmin i h3 ⟨hi, hc⟩
    rw [this,Rat.zero_mul]
   ·have h4:p m <= p i:=by
     rcases Nat.lt_or_ge m i with h5 | h5
     ·exact Nat.le_of_lt (h.inc m i h5 hi)
     ·rw [show i=m by omega]; exact zv _
    rw [h.low i hi s (by omega),Rat.mul_zero]
theorem ztx {k k':Nat} {p p':Nat -> Nat} (a:∀ i m,i < m -> m < k -> p i < p m) (a':∀ i m,i < m -> m < k' -> p' i < p' m) (h:∀ i,i < k -> ∃ m,m < k'/\p' m=p i) (h':∀ i,i < k' -> ∃ m,m < k/\p m=p' i):k=k'/\∀ i,i < k -> p i=p' i:=by
 have key:∀ i,(i < k -> i < k'/\p i=p' i)/\(i < k' -> i < k/\p i=p' i):=by
  intro i
  induction i using Nat.strongRecOn with
  | _ i ih=>
   have h1:i < k -> i < k'/\p' i <= p i:=fun hi=>by
    obtain ⟨m,hm,e⟩:=h i hi
    have:i <= m:=by
     rcases Nat.lt_or_ge m i with h2 | h2
     ·have h3 := ((ih m h2).2 hm).2
      have h4:=a m i h2 hi
      omega
     ·exact h2
    refine ⟨by omega,?_⟩
    rcases Nat.lt_or_ge i m with h2 | h2
    ·have:=a' i m h2 hm; omega
    ·have e2 : i = m := Nat.le_antisymm this h2
     subst e2; omega
   have h2:i < k' -> i < k/\p i <= p' i:=fun hi=>by
    obtain ⟨m,hm,e⟩:=h' i hi
    have:i <= m:=by
     rcases Nat.lt_or_ge m i with h2 | h2
     ·have h3 := ((ih m h2).1 hm).2
      have h4:=a' m i h2 hi
      omega
     ·exact h2
    refine ⟨by omega,?_⟩
    rcases Nat.lt_or_ge i m with h2 | h2
    ·have:=a i m h2 hm; omega
    ·have e2 : i = m := Nat.le_antisymm this h2
     subst e2; omega
   exact ⟨fun hi=>⟨(h1 hi).1,by have:=(h1 hi).2; have:=(h2 (h1 hi).1).2; omega⟩,fun hi=>⟨(h2 hi).1,by have:=(h2 hi).2; have:=(h1 (h2 hi).1).2; omega⟩⟩
 refine ⟨?_,fun i hi=>((key i).1 hi).2⟩
 rcases Nat.lt_trichotomy k k' with h1 | h1 | h1
 ·have:=((key k).2 h1).1; omega
 ·exact h1
 ·have:=((key k').1 h1).1; omega
theorem Rre.unique {n k k':Nat} {E E':Nat -> Nat -> Rat} {p p':Nat -> Nat} (h:Rre n k E p) (h':Rre n k' E' p') (s:∀ i,i < k -> InSp n k' E' (E i)) (s':∀ i,i < k' -> InSp n k E (E' i)):
  k=k'/\(∀ i,i < k -> p i=p' i)/\∀ i,i < k -> ∀ j,j < n -> E i j=E' i j:=by
 obtain ⟨hk,hp⟩:=ztx h.inc h'.inc (fun i hi=>h'.lead (s i hi) (h.lt i hi) (by rw [h.one i i hi hi,if_pos rfl]; decide) (fun j hj=>h.low i hi j hj)) (fun i hi=>h.lead (s' i hi) (h'.lt i hi) (by rw [h'.one i i hi hi,if_pos rfl]; decide) (fun j hj=>h'.low i hi j hj))
 refine ⟨hk,hp,fun i hi j hj=>?_⟩
 subst hk
 rw [h'.spans (s i hi) j hj,rsum_congr (g:=fun m=>E' m j * (if m=i then 1 else 0)) (fun m hm=>by
  rw [<- hp m hm,h.one i m hi hm,Rat.mul_comm]
  by_cases e:i=m
  ·rw [if_pos e,if_pos e.symm]
  ·rw [if_neg e,if_neg (fun e2=>e e2.symm)]),zra hi,Rat.mul_one]
def Nul (n m:Nat) (A:Nat -> Nat -> Rat) (x:Nat -> Rat):Prop:=∀ i,i < m -> rsum n (fun j=>A i j * x j)=0
theorem zs6 {n k:Nat} {E:Nat -> Nat -> Rat} {v x:Nat -> Rat} (hv:InSp n k E v) (hx:Nul n k E x):rsum n (fun j=>v j * x j)=0:=by
 obtain ⟨c,hc⟩:=hv
 rw [rsum_congr (g:=fun j=>rsum k (fun i=>c i * (E i j * x j))) (fun j hj=>by
  rw [hc j hj,<- zrf]; exact rsum_congr fun i _=>by rw [Rat.mul_assoc]),zrl]
 exact zrb fun i hi=>by rw [zrj,hx i hi,Rat.mul_zero]
theorem zsq {n k m:Nat} {E A:Nat -> Nat -> Rat} (h:∀ i,i < m -> InSp n k E (A i)) {x:Nat -> Rat} (hx:Nul n k E x):Nul n m A x:=fun i hi=>zs6 (h i hi) hx
structure Split (n k r:Nat) (p f:Nat -> Nat):Prop where
 plt:∀ i,i < k -> p i < n
 flt:∀ l,l < r -> f l < n
 pinj:∀ i m,i < k -> m < k -> p i=p m -> i=m
 finj:∀ i m,i < r -> m < r -> f i=f m -> i=m
 dis:∀ i l,i < k -> l < r -> p i ≠ f l
 cov:∀ j,j < n -> (∃ i,i < k/\p i=j) ∨ ∃ l,l < r/\f l=j
theorem zrK {n m:Nat} (hm:m < n) (f:Nat -> Rat):rsum n (fun i=>if i=m then f i else 0)=f m:=by
 rw [rsum_congr (g:=fun i=>f i * (if i=m then 1 else 0)) (fun i _=>by split <;> grind),zra hm,Rat.mul_one]
theorem zrB {n k r:Nat} {p f:Nat -> Nat} (h:Split n k r p f) (g:Nat -> Rat):rsum n g=rsum k (fun i=>g (p i))+rsum r (fun l=>g (f l)):=by
 have e1:∀ j,j < n -> g j=rsum k (fun i=>if j=p i then g j else 0)+rsum r (fun l=>if j=f l then g j else 0):=fun j hj=>by
  rcases h.cov j hj with ⟨i,hi,e⟩ | ⟨l,hl,e⟩
  ·have a:rsum k (fun m=>if j=p m then g j else 0)=g j:=by
    rw [rsum_congr (g:=fun m=>if m=i then g j else 0) (fun m hm=>by
     by_cases e2:m=i
     ·rw [if_pos e2,if_pos (by rw [e2,e])]
     ·rw [if_neg e2,if_neg (fun e3=>e2 (h.pinj m i hm hi (by omega)))]),zrK hi (fun _=>g j)]
   have b:rsum r (fun l=>if j=f l then g j else 0)=0:=zrb fun l hl=>if_neg (fun e3=>h.dis i l hi hl (by omega))
   rw [a,b,Rat.add_zero]
  ·have a:rsum r (fun m=>if j=f m then g j else 0)=g j:=by
    rw [rsum_congr (g:=fun m=>if m=l then g j else 0) (fun m hm=>by
     by_cases e2:m=l
     ·rw [if_pos e2,if_pos (by rw [e2,e])]
     ·rw [if_neg e2,if_neg (fun e3=>e2 (h.finj m l hm hl (by omega)))]),zrK hl (fun _=>g j)]
   have b:rsum k (fun i=>if j=p i then g j else 0)=0:=zrb fun i hi=>if_neg (fun e3=>h.dis i l hi hl (by omega))
   rw [a,b,Rat.zero_add]
 rw [rsum_congr e1,zrw,zrl,zrl n r]
 congr 1
 ·exact rsum_congr fun i hi=>zrK (h.plt i hi) g
 ·exact rsum_congr fun l hl=>zrK (h.flt l hl) g
structure Free (k r:Nat) (E:Nat -> Nat -> Rat) (p f:Nat -> Nat) (V:Nat -> Nat -> Rat):Prop where
 at_f:∀ l m,l < r -> m < r -> V l (f m)=if l=m then 1 else 0
 at_p:∀ l i,l < r -> i < k -> V l (p i) = - E i (f l)
theorem zs8 {n k r:Nat} {E V:Nat -> Nat -> Rat} {p f:Nat -> Nat} (hs:Split n k r p f) (hV:Free k r E p f V) (hinc:∀ i m,i < m -> m < r -> f i < f m) (hlast:∀ i,i < k -> ∀ j,p i < j -> j < n -> E i j=0):Rre n r V f where
 lt:=hs.flt
 inc:=hinc
 one i m hi hm:=hV.at_f i m hi hm
 low l hl j hj:=by
  rcases hs.cov j (by have:=hs.flt l hl; omega) with ⟨i,hi,rfl⟩ | ⟨m,hm,rfl⟩
  ·rw [hV.at_p l i hl hi,hlast i hi _ hj (hs.flt l hl)]; exact Rat.neg_zero
  ·rw [hV.at_f l m hl hm,if_neg (fun e=>by subst e; omega)]
def rowZ (rows:List (List Int)) (i j:Nat):Int:=(rows.getD i []).getD j 0
theorem zr1 {l:List Int} {j:Nat} (h:l.length <= j):l.getD j 0=0:=by
 rw [zy0,List.getElem?_eq_none h]; rfl
theorem zsI {D x:Int} (h:D ≠ 0):flr (D * x) D=x:=by
 rcases Int.lt_or_gt_of_ne h with h1 | h1
 ·exact flr_of (r:=0) (by omega) (.inr ⟨h1,Int.le_refl _⟩)
 ·exact flr_of (r:=0) (by omega) (.inl ⟨Int.le_refl _,h1⟩)
theorem zrA {D x y:Int} (h:D ≠ 0) (e:y=D * x):flr y D=x:=by rw [e]; exact zsI h
theorem zs9 {row prow:List Int} {P M B:Int} {m:Nat} (h1:row.length=m) (h2:prow.length=m) (hB:B ≠ 0) (j:Nat):(zcQ row prow P M B m).getD j 0=flr (row.getD j 0 * P - prow.getD j 0 * M) B:=by
 by_cases h:j < m
 ·unfold zcQ
  rw [zy0,zy1,List.getElem?_range h]; rfl
 ·rw [zr1 (l := zcQ row prow P M B m) (by rw [zcM]; omega), zr1 (l := row) (by omega), zr1 (l := prow) (by omega)]
  exact (zrA (x:=0) hB (by grind)).symm
def swI (a b i:Nat):Nat:=if b=i then a else if a=i then b else i
theorem zr6 {l:List (List Int)} {a b:Nat} (ha:a < l.length) (hb:b < l.length) (i j:Nat):rowZ (swapR l a b) i j=rowZ l (swI a b i) j:=by
 have e:(swapR l a b).getD i []=l.getD (swI a b i) []:=by
  rw [zy0,zjD ha hb,zy0]
  unfold swI
  split
  ·rfl
  ·split <;> rfl
 unfold rowZ
 rw [e]
theorem ztp {a b i:Nat} (h:i < a) (hb:a <= b):swI a b i=i:=by
 unfold swI; rw [if_neg (by omega),if_neg (by omega)]
theorem ztq {a b i:Nat} (h:a <= i) (hb:a <= b):a <= swI a b i:=by
 unfold swI; split
 ·omega
 ·split <;> omega
theorem swI_r {a b i r:Nat} (h:i < r) (ha:a < r) (hb:b < r):swI a b i < r:=by
 unfold swI; split
 ·omega
 ·split <;> omega
theorem ztg {a b i:Nat}:swI a b (swI a b i)=i:=by
 unfold swI
 by_cases h1:b=i
 ·rw [if_pos h1]
  by_cases h2:b=a
  ·rw [if_pos h2]; omega
  ·rw [if_neg h2,if_pos rfl]; exact h1
 ·rw [if_neg h1]
  by_cases h2:a=i
  ·rw [if_pos h2,if_pos rfl]; exact h2
  ·rw [if_neg h2,if_neg h1,if_neg h2]
theorem zrI {zss:List (List Int)} {p col m i:Nat} {B:Int} (hm:∀ zs ∈ zss,zs.length=m) (hp:p < zss.length) (hi:i < zss.length) (hB:B ≠ 0) (j:Nat):
  rowZ (zcR zss p col m B) i j=if i=p then rowZ zss p j else flr (rowZ zss i j * rowZ zss p col - rowZ zss p j * rowZ zss i col) B:=by
 have e:=za3 (d:=[]) (ziC (col:=col) (m:=m) (p:=p) (B:=B) hi)
 unfold rowZ
 rw [e]
 clear e
 by_cases e:i=p
 ·rw [if_pos e,if_pos e]
 ·rw [if_neg e,if_neg e,zs9 (hm _ (zcc hi)) (hm _ (zcc hp)) hB]
theorem zrQ (n:Nat) (f:Nat -> Int):((isum n f:Int):Rat)=rsum n (fun i=>(f i:Rat)):=by
 induction n with
 | zero=>rfl
 | succ n ih=>unfold isum rsum; rw [Rat.intCast_add,ih]
theorem ztj {P D z r t c:Rat} (h:P ≠ 0) (e:D * z=r * P - t * c):r=z * (D / P)+t * (c / P):=by
 have:r=(D * z+t * c) / P:=by rw [e]; grind
 rw [this]; grind
theorem ztk {D x n S:Rat} (h:D ≠ 0) (e:x=D * n - S):n=S * (1 / D)+1 / D * x:=by rw [e]; grind
theorem ztr {D a b:Rat} (h:D ≠ 0):a * b=a * D * (b / D):=by grind
theorem ztt {D a b:Rat}:a * (b / D)=a * b * (1 / D):=by grind
theorem zso {D a b:Rat}:a / D * b=a * b * (1 / D):=by grind
theorem rat_c {D n:Rat} (h:D ≠ 0):n=D * n * (1 / D):=by grind
theorem zs4 {D:Rat} (h:D ≠ 0):D / D=1:=by grind
theorem rat_z {D:Rat}:0 / D=0:=by grind
theorem zts {D a:Rat}:a / D=a * (1 / D):=by grind
theorem zr8 {z:Int} (h:z ≠ 0):(z:Rat) ≠ 0:=fun e=>h (by exact_mod_cast e)
structure EInv (n r c:Nat) (M:Nat -> Nat -> Int) (s:ElS) (N A:Nat -> Nat -> Int) (q:Nat -> Nat) (e:Int):Prop where
 rl:s.rows.length=r
 ml:∀ zs ∈ s.rows,zs.length=n
 kr:s.piv.length <= r
 piv:∀ m,m < s.piv.length -> s.piv[m]?=some (q m:Int)
 qc:∀ m,m < s.piv.length -> q m < c
 qi:∀ i m,i < m -> m < s.piv.length -> q i < q m
 ee:e * e=1
 det:s.fac=e * detZ s.piv.length (fun l m=>N l (q m))
 f0:s.fac ≠ 0
 comb:∀ i,i < s.piv.length -> ∀ j,rowZ s.rows i j=isum s.piv.length (fun l=>A i l * N l j)
 at_q:∀ i m,i < s.piv.length -> m < s.piv.length -> rowZ s.rows i (q m)=if i=m then s.fac else 0
 rest:∀ i,s.piv.length <= i -> i < r -> ∀ j,rowZ s.rows i j=s.fac * N i j - isum s.piv.length (fun l=>N i (q l) * rowZ s.rows l j)
 zero:∀ i,s.piv.length <= i -> i < r -> ∀ j,j < c -> rowZ s.rows i j=0
 low:∀ i,i < s.piv.length -> ∀ j,j < q i -> rowZ s.rows i j=0
 sp:∀ i,i < s.piv.length -> InSp n s.piv.length (fun l j=>(rowZ s.rows l j:Rat)) (fun j=>(N i j:Rat))
 tow:∀ i,i < r -> ∃ l,l < r/\N l=M i
 fro:∀ l,l < r -> ∃ i,i < r/\N l=M i
theorem zsy {rows:List (List Int)} {next col:Nat} (h:zcO rows next col = -1):∀ i,next <= i -> i < rows.length -> rowZ rows i col=0:=fun i hi hl=>by
 unfold zcO at h
 rcases zdy ((rows.drop next).map fun (row:List Int)=>decide (row.getD col 0 ≠ 0)) with ⟨_,h2⟩ | ⟨k,h2,_⟩
 ·have h3:=h2 (i - next) (decide ((rows.getD i []).getD col 0 ≠ 0)) (by
   rw [zy1,List.getElem?_drop,show next+(i - next)=i by omega,zg hl,za3 (zg hl)]; rfl)
  unfold rowZ
  simpa using h3
 ·omega
theorem EInv.step {n r c:Nat} {M:Nat -> Nat -> Int} {s:ElS} {N A:Nat -> Nat -> Int} {q:Nat -> Nat} {e:Int} (h:EInv n r c M s N A q e):
  ∃ N' A' q' , EInv n r (c+1) M (zdV n s c) N' A' q' e:=by
 rcases zgM s.rows s.piv.length c with hn | ⟨f,hf,hlt,hne⟩
 ·rw [zdB hn]
  have hz:=zsy hn
  exact ⟨N,A,q,⟨h.rl,h.ml,h.kr,h.piv,fun m hm=>by have:=h.qc m hm; omega,h.qi,h.ee,h.det,h.f0,h.comb,h.at_q,h.rest,fun i hi hr j hj=>by
   by_cases e:j=c
   ·rw [e]; exact hz i hi (by rw [h.rl]; exact hr)
   ·exact h.zero i hi hr j (by omega),h.low,h.sp,h.tow,h.fro⟩⟩
 ·rw [zfT hf]
  obtain ⟨rl,ml,kr,piv,qc,qi,ee,det,f0,comb,at_q,rest,zero,low,sp,tow,fro⟩:=h
  obtain ⟨rows,pv,D⟩:=s
  dsimp only at *
  clear hf
  obtain ⟨k,hk⟩:∃ k,pv.length=k:=⟨_,rfl⟩
  rw [hk] at kr piv qc qi det comb at_q rest zero low sp hlt hne
  have hpk:k < rows.length:=by omega
  have hkr:k < r:=by omega
  obtain ⟨S,hS⟩:∃ S,swapR rows k (k+f)=S:=⟨_,rfl⟩
  have hSl:S.length=r:=by rw [<- hS,zcT]; exact rl
  have hSm:∀ zs ∈ S,zs.length=n:=fun zs hz=>ml zs (by
   rw [<- hS] at hz
   obtain ⟨i,hi⟩:=List.mem_iff_getElem?.1 hz
   rw [zjD hpk hlt] at hi
   split at hi
   ·exact zk hi
   ·split at hi <;> exact zk hi)
  obtain ⟨R,hR⟩:∃ R,R=rowZ rows:=⟨_,rfl⟩
  obtain ⟨W,hW⟩:∃ W:Nat -> Nat,W=swI k (k+f):=⟨_,rfl⟩
  have hRS:∀ i j,rowZ S i j=R (W i) j:=fun i j=>by rw [<- hS,zr6 hpk hlt,hR,hW]
  have hWk:∀ i,i < k -> W i=i:=fun i hi=>by rw [hW]; exact ztp hi (by omega)
  have hWg:∀ i,k <= i -> k <= W i:=fun i hi=>by rw [hW]; exact ztq hi (by omega)
  have hWr:∀ i,i < r -> W i < r:=fun i hi=>by rw [hW]; exact swI_r hi hkr (by omega)
  have hWW:∀ i,W (W i)=i:=fun i=>by rw [hW]; exact ztg
  obtain ⟨N',hN'⟩:∃ N',N'=fun i=>N (W i):=⟨_,rfl⟩
  have hNk:∀ i,i < k -> N' i=N i:=fun i hi=>by rw [hN']; show N (W i)=_; rw [hWk i hi]
  obtain ⟨t,ht⟩:∃ t,t=R (W k):=⟨_,rfl⟩
  obtain ⟨P,hP⟩:∃ P,P=t c:=⟨_,rfl⟩
  have hPe:(S.getD k []).getD c 0=P:=by
   show rowZ S k c=P
   rw [hRS,hP,ht]
  have hP0:P ≠ 0:=by
   have e1:P=rowZ rows (k+f) c:=by
    rw [hP,ht,hR,hW]; unfold swI
    by_cases e:k+f=k
    ·rw [if_pos e,e]
    ·rw [if_neg e,if_pos rfl]
   rw [e1]; exact hne
  have hRr:∀ i,k <= i -> i < r -> ∀ j,R (W i) j=D * N' i j - isum k (fun l=>N' i (q l) * R l j):=fun i hi hir j=>by
   rw [hR,hN']; exact rest (W i) (hWg i hi) (hWr i hir) j
  have hRz:∀ i,k <= i -> i < r -> ∀ j,j < c -> R (W i) j=0:=fun i hi hir j hj=>by
   rw [hR]; exact zero (W i) (hWg i hi) (hWr i hir) j hj
  have htz:∀ j,j < c -> t j=0:=fun j hj=>by rw [ht]; exact hRz k (zv _) hkr j hj
  have hat:∀ i m,i < k -> m < k -> R i (q m)=if i=m then D else 0:=by rw [hR]; exact at_q
  have hlow:∀ i,i < k -> ∀ j,j < q i -> R i j=0:=by rw [hR]; exact low
  have hcomb:∀ i,i < k -> ∀ j,R i j=isum k (fun l=>A i l * N' l j):=fun i hi j=>by
   rw [hR,comb i hi j]; exact zq9 fun l hl=>by rw [hNk l hl]
  obtain ⟨A',hb1,hb2,hb3⟩:=zto (k:=k) (N:=N') (A:=A) (R:=R) (q:=q) (D:=D) (e:=e) (p:=c) (t:=t) ee
   (by rw [det]; congr 1; exact zrq fun l m hl _=>by rw [hNk l hl]) f0 hcomb hat
   (fun j=>by rw [ht]; exact hRr k (zv _) hkr j) (by rw [<- hP]; exact hP0)
  rw [<- hP] at hb1 hb2
  obtain ⟨q',hq'⟩:∃ q':Nat -> Nat,q'=fun m=>if m < k then q m else c:=⟨_,rfl⟩
  have hqk:∀ m,m < k -> q' m=q m:=fun m hm=>by rw [hq']; exact if_pos hm
  have hqc:q' k=c:=by rw [hq']; exact if_neg (by omega)
  obtain ⟨Z,hZ⟩:∃ Z,Z=rowZ (zcR S k c n D):=⟨_,rfl⟩
  have hZk:∀ j,Z k j=t j:=fun j=>by
   rw [hZ,zrI hSm (by omega) (by omega) f0,if_pos rfl,hRS,ht]
  have hZi:∀ i,i < r -> i ≠ k -> ∀ j,Z i j=flr (R (W i) j * P - t j * R (W i) c) D:=fun i hi hik j=>by
   rw [hZ,zrI hSm (by omega) (by omega) f0,if_neg hik,hRS,hRS,hRS,hRS,<- ht,<- hP]
  have hZl:∀ i,i < k -> ∀ j,Z i j=isum (k+1) (fun l=>A' i l * N' l j):=fun i hi j=>by
   rw [hZi i (by omega) (by omega) j,hWk i hi]
   exact zrA f0 (hb2 i hi j)
  have hZD:∀ i,i < k -> ∀ j,D * Z i j=R i j * P - t j * R i c:=fun i hi j=>by
   rw [hZl i hi j]; exact (hb2 i hi j).symm
  have hZg:∀ i,k < i -> i < r -> ∀ j,Z i j=P * N' i j - isum (k+1) (fun l=>N' i (q' l) * Z l j):=fun i hi hir j=>by
   rw [hZi i hir (by omega) j]
   refine zrA f0 ?_
   have e1:isum (k+1) (fun l=>N' i (q' l) * Z l j)=isum k (fun l=>N' i (q l) * Z l j)+N' i c * t j:=by
    show isum k _+N' i (q' k) * Z k j=_
    rw [hqc,hZk]
    congr 1
    exact zq9 fun l hl=>by rw [hqk l hl]
   have e2:D * isum k (fun l=>N' i (q l) * Z l j)=isum k (fun l=>N' i (q l) * R l j) * P - t j * isum k (fun l=>N' i (q l) * R l c):=by
    rw [<- zrc,<- zry,<- zrc,<- zsv]
    exact zq9 fun l hl=>by
     have:=hZD l hl j
     grind
   rw [e1,hRr i (by omega) hir j,hRr i (by omega) hir c]
   grind
  have hlen:(pv ++ [(c:Int)]).length=k+1:=by simp [hk]
  have sp0:∀ i,i < k -> InSp n k (fun l j=>(R l j:Rat)) (fun j=>(N' i j:Rat)):=fun i hi=>by
   rw [hR,hNk i hi]; exact sp i hi
  have hPr:(P:Rat) ≠ 0:=zr8 hP0
  have hDr:(D:Rat) ≠ 0:=zr8 f0
  have hold:∀ l,l < k -> InSp n (k+1) (fun l j=>(Z l j:Rat)) (fun j=>(R l j:Rat)):=fun l hl=>by
   refine ⟨fun m=>(if m=l then (D:Rat) / P else 0)+(if m=k then (R l c:Rat) / P else 0),fun j _=>?_⟩
   rw [rsum_congr (g:=fun m=>(Z m j:Rat) * (if m=l then (D:Rat) / P else 0)+(Z m j:Rat) * (if m=k then (R l c:Rat) / P else 0)) (fun m _=>by rw [Rat.mul_comm,Rat.mul_add]),zrw,zra (by omega),zra (by omega),hZk]
   have e1:=hZD l hl j
   have e2:(D:Rat) * Z l j=R l j * P - t j * R l c:=by
    have:=congrArg (fun z:Int=>(z:Rat)) e1
    simpa only [Rat.intCast_mul,Rat.intCast_sub] using this
   exact ztj hPr e2
  have hZrest:∀ i,k+1 <= i -> i < r -> ∀ j,j < c+1 -> Z i j=0:=fun i hi hir j hj=>by
   rw [hZi i hir (by omega) j]
   refine zrA f0 ?_
   by_cases e:j=c
   ·rw [e,<- hP]; grind
   ·rw [hRz i (by omega) hir j (by omega),htz j (by omega)]; grind
  exact ⟨N',A',q',{
   rl:=by simp only [zcR,List.length_map,List.length_range]; rw [hk,hS]; exact hSl
   ml:=fun zs hz=>by
    dsimp only at hz
    rw [hk,hS] at hz
    obtain ⟨i,hi⟩:=List.mem_iff_getElem?.1 hz
    have hir:i < S.length:=by
     have:=(zh.1 hi).1
     simpa [zcR] using this
    rw [ziC hir] at hi
    obtain rfl:=zl hi
    split
    ·exact hSm _ (zcc (by omega))
    ·exact zcM
   kr:=by dsimp only; rw [hlen]; omega
   piv:=fun m hm=>by
    dsimp only at hm ⊢
    rw [hlen] at hm
    by_cases e:m < k
    ·rw [List.getElem?_append_left (by omega),piv m e,hqk m e]
    ·obtain rfl : m = k := by omega
     rw [List.getElem?_append_right (by omega),hk,hqc]; simp
   qc:=fun m hm=>by
    dsimp only at hm
    rw [hlen] at hm
    by_cases e:m < k
    ·rw [hqk m e]; have:=qc m e; omega
    ·obtain rfl : m = k := by omega
     rw [hqc]; omega
   qi:=fun i m him hm=>by
    dsimp only at hm
    rw [hlen] at hm
    by_cases e:m < k
    ·rw [hqk m e,hqk i (by omega)]; exact qi i m him e
    ·obtain rfl : m = k := by omega
     rw [hqc,hqk i him]; exact qc i him
   ee:=ee
   det:=by
    dsimp only
    rw [hlen,hk,hS,hPe,hb1,hq']
   f0:=by dsimp only; rw [hk,hS,hPe]; exact hP0
   comb:=fun i hi j=>by
    dsimp only at hi ⊢
    rw [hlen] at hi ⊢
    rw [hk,hS,<- hZ]
    by_cases e:i < k
    ·exact hZl i e j
    ·obtain rfl : i = k := by omega
     rw [hZk,hb3 j]
   at_q:=fun i m hi hm=>by
    dsimp only at hi hm ⊢
    rw [hlen] at hi hm
    rw [hk,hS,<- hZ,hPe]
    by_cases ei:i < k
    ·refine Int.eq_of_mul_eq_mul_left f0 ?_
     rw [hZD i ei]
     by_cases em:m < k
     ·rw [hqk m em, htz _ (qc m em), hat i m ei em]
      split <;> grind
     ·obtain rfl : m = k := by omega
      rw [hqc,if_neg (by omega),<- hP]; grind
    ·obtain rfl : i = k := by omega
     rw [hZk]
     by_cases em:m < i
     ·rw [hqk m em,htz _ (qc m em),if_neg (by omega)]
     ·obtain rfl : m = i := by omega
      rw [hqc,if_pos rfl,hP]
   rest:=fun i hi hir j=>by
    dsimp only at hi ⊢
    rw [hlen] at hi ⊢
    rw [hk,hS,<- hZ,hPe]
    exact hZg i (by omega) hir j
   zero:=fun i hi hir j hj=>by
    dsimp only at hi ⊢
    rw [hlen] at hi
    rw [hk,hS,<- hZ]
    exact hZrest i hi hir j hj
   low:=fun i hi j hj=>by
    dsimp only at hi ⊢
    rw [hlen] at hi
    rw [hk,hS,<- hZ]
    by_cases ei:i < k
    ·rw [hqk i ei] at hj
     refine Int.eq_of_mul_eq_mul_left f0 ?_
     have:=qc i ei
     rw [hZD i ei,hlow i ei j hj,htz j (by omega)]; grind
    ·obtain rfl : i = k := by omega
     rw [hqc] at hj
     rw [hZk,htz j hj]
   sp:=fun i hi=>by
    dsimp only at hi ⊢
    rw [hlen] at hi ⊢
    rw [hk,hS,<- hZ]
    by_cases ei:i < k
    ·exact zre hold (sp0 i ei)
    ·obtain rfl : i = k := by omega
     have e0:InSp n (i+1) (fun l j=>(R l j:Rat)) (fun j=>(N' i j:Rat)) -> True:=fun _=>trivial
     obtain ⟨E,hE⟩:∃ E:Nat -> Nat -> Rat,E=fun l j=>if l < i then (R l j:Rat) else (t j:Rat):=⟨_,rfl⟩
     have hEs:∀ l,l < i+1 -> InSp n (i+1) (fun l j=>(Z l j:Rat)) (E l):=fun l hl=>by
      by_cases e:l < i
      ·rw [hE]; simp only [if_pos e]; exact hold l e
      ·obtain rfl : l = i := by omega
       have:E l=fun j=>(Z l j:Rat):=by
        rw [hE]; funext j; show (if l < l then _ else _)=_
        rw [if_neg (by omega),hZk]
       rw [this]; exact zsw (E:=fun l j=>(Z l j:Rat)) hl
     refine zre hEs ⟨fun l=>if l < i then (N' i (q l):Rat) / D else 1 / D,fun j _=>?_⟩
     show _=rsum i _+(if i < i then _ else _) * E i j
     rw [if_neg (by omega),rsum_congr (n:=i) (g:=fun l=>(N' i (q l) * R l j:Rat) * (1 / D)) (fun l hl=>by
      show (if l < i then (N' i (q l):Rat) / D else 1 / D) * E l j=_
      rw [if_pos hl,show E l j=(R l j:Rat) by rw [hE]; exact if_pos hl]; exact zso),zrf,show E i j=(t j:Rat) by rw [hE]; exact if_neg (by omega)]
     have e1:t j=D * N' i j - isum i (fun l=>N' i (q l) * R l j):=by rw [ht]; exact hRr i (zv _) hkr j
     have e2:(t j:Rat)=D * N' i j - rsum i (fun l=>(N' i (q l) * R l j:Rat)):=by
      rw [e1,Rat.intCast_sub,Rat.intCast_mul,zrQ]
      congr 1
      exact rsum_congr fun l _=>by rw [Rat.intCast_mul]
     exact ztk hDr e2
   tow:=fun i hi=>by
    obtain ⟨l,hl,e⟩:=tow i hi
    exact ⟨W l,hWr l hl,by rw [hN']; show N (W (W l))=_; rw [hWW,e]⟩
   fro:=fun l hl=>by
    obtain ⟨i,hi,e⟩:=fro (W l) (hWr l hl)
    exact ⟨i,hi,by rw [hN']; exact e⟩ }⟩
theorem EInv.go {n r:Nat} {rows:List (List Int)} (hr:rows.length=r) (hm:∀ zs ∈ rows,zs.length=n):∀ c,∃ N A q,EInv n r c (rowZ rows) (elGo n rows c) N A q 1
 | 0=>⟨rowZ rows,fun _ _=>0,fun _=>0,{
   rl:=hr,ml:=hm,kr:=Nat.zero_le _,piv:=fun m hm=>(by cases hm),qc:=fun m hm=>(by cases hm),qi:=fun i m _ hm=>(by cases hm),ee:=rfl,det:=(by show (1:Int)=1 * detZ 0 _; rfl),f0:=(by show (1:Int) ≠ 0; decide)
   comb:=fun i hi=>(by cases hi),at_q:=fun i m hi=>(by cases hi)
   rest:=fun i _ _ j=>(by show rowZ rows i j=1 * rowZ rows i j - isum 0 _; show _=1 * rowZ rows i j - 0; omega)
   zero:=fun i _ _ j hj=>(by cases hj),low:=fun i hi=>(by cases hi),sp:=fun i hi=>(by cases hi),tow:=fun i hi=>⟨i,hi,rfl⟩,fro:=fun i hi=>⟨i,hi,rfl⟩ }⟩
 | c+1=>by
  obtain ⟨N,A,q,h⟩:=EInv.go hr hm c
  exact h.step
def elE (s:ElS) (i j:Nat):Rat:=(rowZ s.rows i j:Rat) / s.fac
def elP (s:ElS) (i:Nat):Nat:=(s.piv.getD i 0).toNat
theorem zsK {n r:Nat} {rows:List (List Int)} (hr:rows.length=r) (hm:∀ zs ∈ rows,zs.length=n):
  Rre n (elGo n rows n).piv.length (elE (elGo n rows n)) (elP (elGo n rows n))/\(∀ i,i < (elGo n rows n).piv.length -> InSp n r (fun i j=>(rowZ rows i j:Rat)) (elE (elGo n rows n) i)) /\
  (∀ i,i < r -> InSp n (elGo n rows n).piv.length (elE (elGo n rows n)) (fun j=>(rowZ rows i j:Rat)))/\(∀ i,i < (elGo n rows n).piv.length -> ((elGo n rows n).piv.getD i 0=(elP (elGo n rows n) i:Int)))/\(elGo n rows n).fac ≠ 0/\(elGo n rows n).piv.length <= r:=by
 obtain ⟨N,A,q,h⟩:=EInv.go hr hm n
 obtain ⟨s,hs⟩:∃ s,elGo n rows n=s:=⟨_,rfl⟩
 rw [hs] at h ⊢
 have hq:∀ i,i < s.piv.length -> s.piv.getD i 0=(q i:Int):=fun i hi=>za3 (h.piv i hi)
 have hp:∀ i,i < s.piv.length -> elP s i=q i:=fun i hi=>by unfold elP; rw [hq i hi]; rfl
 have hD:(s.fac:Rat) ≠ 0:=zr8 h.f0
 have hN:∀ i,i < r -> InSp n s.piv.length (elE s) (fun j=>(N i j:Rat)):=fun i hi=>by
  by_cases e:i < s.piv.length
  ·obtain ⟨c, hc⟩ := h.sp i e
   exact ⟨fun l=>c l * s.fac,fun j hj=>by
    rw [hc j hj]
    exact rsum_congr fun l _=>ztr hD⟩
  ·refine ⟨fun l => (N i (q l) : Rat), fun j hj => ?_⟩
   have e1:=h.rest i (by omega) hi j
   rw [h.zero i (by omega) hi j hj] at e1
   have e2:s.fac * N i j=isum s.piv.length (fun l=>N i (q l) * rowZ s.rows l j):=by omega
   have e3:(s.fac:Rat) * N i j=rsum s.piv.length (fun l=>(N i (q l) * rowZ s.rows l j:Rat)):=by
    rw [<- Rat.intCast_mul,e2,zrQ]
    exact rsum_congr fun l _=>by rw [Rat.intCast_mul]
   have e4:rsum s.piv.length (fun l=>(N i (q l):Rat) * elE s l j)=rsum s.piv.length (fun l=>(N i (q l) * rowZ s.rows l j:Rat)) * (1 / s.fac):=by
    rw [<- zrf]; exact rsum_congr fun l _=>ztt
   show (N i j:Rat)=rsum s.piv.length (fun l=>(N i (q l):Rat) * elE s l j)
   rw [e4,<- e3]
   exact rat_c hD
 refine ⟨⟨fun i hi=>by rw [hp i hi]; exact h.qc i hi,fun i m him hm=>by rw [hp i (by omega),hp m hm]; exact h.qi i m him hm,fun i m hi hm=>?_,fun i hi j hj=>?_⟩,fun i hi=>?_,fun i hi=>?_,fun i hi=>by rw [hp i hi]; exact hq i hi,h.f0,h.kr⟩
 ·unfold elE
  rw [hp m hm,h.at_q i m hi hm]
  split
  ·exact zs4 hD
  ·exact rat_z
 ·rw [hp i hi] at hj
  unfold elE
  rw [h.low i hi j hj]; exact rat_z
 ·have hrow:∀ l,l < s.piv.length -> InSp n r (fun i j=>(rowZ rows i j:Rat)) (fun j=>(N l j:Rat)):=fun l hl=>by
   obtain ⟨m,hm,e⟩:=h.fro l (by have:=h.kr; omega)
   rw [e]; exact zsw (E:=fun i j=>(rowZ rows i j:Rat)) hm
  refine zre hrow ⟨fun l=>(A i l:Rat) / s.fac,fun j _=>?_⟩
  have e4:rsum s.piv.length (fun l=>(A i l:Rat) / s.fac * (N l j:Rat))=rsum s.piv.length (fun l=>((A i l * N l j:Int):Rat)) * (1 / s.fac):=by
   rw [<- zrf]; exact rsum_congr fun l _=>by rw [Rat.intCast_mul]; exact zso
  show elE s i j=rsum s.piv.length (fun l=>(A i l:Rat) / s.fac * (N l j:Rat))
  unfold elE
  rw [e4,h.comb i hi j,zrQ]
  exact zts
 ·obtain ⟨l, hl, e⟩ := h.tow i hi
  rw [<- e]; exact hN l hl
def skipR (a j:Nat):Nat:=if j < a then j else j+1
def zsf (a j:Nat):Nat:=if j < a then j else j - 1
theorem zse (a j:Nat):zsf a (skipR a j)=j:=by
 unfold zsf skipR
 by_cases h:j < a
 ·rw [if_pos h,if_pos h]
 ·rw [if_neg h,if_neg (by omega)]; omega
theorem zth (a j:Nat):skipR a j ≠ a:=by unfold skipR; split <;> omega
theorem zti {a j n:Nat} (h:j < n):skipR a j < n+1:=by unfold skipR; split <;> omega
theorem zr7 {a:Nat} (f:Nat -> Rat):∀ n,a <= n -> rsum (n+1) f=rsum n (fun j=>f (skipR a j))+f a
 | 0,h=>by
  obtain rfl:a=0:=by omega
  rfl
 | n+1,h=>by
  by_cases e:a=n+1
  ·show rsum (n + 1) f + f (n + 1) = _
   rw [e]; congr 1
   exact rsum_congr fun j hj=>by unfold skipR; rw [if_pos (by omega)]
  ·have ih := zr7 f n (a := a) (by omega)
   show rsum (n+1) f+f (n+1)=rsum n (fun j=>f (skipR a j))+f (skipR a n)+f a
   rw [ih,show skipR a n=n+1 by unfold skipR; rw [if_neg (by omega)]]
   grind
theorem zrZ:∀ (k n:Nat) (A:Nat -> Nat -> Rat),k < n -> ∃ x,Nul n k A x/\∃ j,j < n/\x j ≠ 0
 | 0,n,A,h=>⟨fun _=>1,fun i hi=>(by omega),0,h,by decide⟩
 | k+1,n,A,h=>by
  by_cases hz:∀ j,j < n -> A k j=0
  ·obtain ⟨x, hx, hj⟩ := zrZ k n A (by omega)
   refine ⟨x,fun i hi=>?_,hj⟩
   by_cases e:i < k
   ·exact hx i e
   ·obtain rfl : i = k := by omega
    exact zrb fun j hj=>by rw [hz j hj,Rat.zero_mul]
  ·have hz2 : ∃ a, a < n /\ A k a ≠ 0 := Classical.byContradiction fun hc => hz fun j hj => Classical.byContradiction fun hc2 => hc ⟨j, hj, hc2⟩
   obtain ⟨a,ha,hne⟩:=hz2
   obtain ⟨m,rfl⟩:∃ m,n=m+1:=⟨n - 1,by omega⟩
   obtain ⟨y,hy,j,hj,hyj⟩:=zrZ k m (fun i j=>A i (skipR a j) - A k (skipR a j) * (A i a / A k a)) (by omega)
   obtain ⟨S,hS⟩:∃ S,rsum m (fun j=>A k (skipR a j) * y j)=S:=⟨_,rfl⟩
   obtain ⟨x,hx⟩:∃ x:Nat -> Rat,x=fun j=>if j=a then - S / A k a else y (zsf a j):=⟨_,rfl⟩
   have hxs:∀ j,x (skipR a j)=y j:=fun j=>by
    rw [hx]; show (if skipR a j=a then _ else _)=_
    rw [if_neg (zth a j),zse]
   have hxa:x a = - S / A k a:=by rw [hx]; exact if_pos rfl
   have hrow:∀ i,rsum (m+1) (fun j=>A i j * x j)=rsum m (fun j=>A i (skipR a j) * y j)+A i a * (- S / A k a):=fun i=>by
    rw [zr7 (a:=a) _ m (by omega),hxa,rsum_congr (n:=m) fun j _=>by rw [hxs]]
   refine ⟨x,fun i hi=>?_,skipR a j,zti hj,by rw [hxs]; exact hyj⟩
   rw [hrow]
   by_cases e:i < k
   ·have h1 := hy i e
    have h2:rsum m (fun j=>A i (skipR a j) * y j)=rsum m (fun j=>(A i (skipR a j) - A k (skipR a j) * (A i a / A k a)) * y j+(A i a / A k a) * (A k (skipR a j) * y j)):=rsum_congr fun j _=>by grind
    rw [h2,zrw,zrj,h1,hS]
    clear h2 h1 hy hrow hxs hx
    grind
   ·obtain rfl : i = k := by omega
    rw [hS]
    clear hy hrow hxs hx
    grind
theorem zsn {n k m:Nat} {E G:Nat -> Nat -> Rat} {p:Nat -> Nat} (h:Rre n k E p) (hs:∀ i,i < k -> InSp n m G (E i)):k <= m:=by
 rcases Nat.lt_or_ge m k with hlt | hge
 ·exfalso
  have h2:∀ i,∃ d:Nat -> Rat,i < k -> ∀ j,j < n -> E i j=rsum m (fun l=>d l * G l j):=fun i=>by
   by_cases hi:i < k
   ·obtain ⟨d,hd⟩:=hs i hi; exact ⟨d,fun _=>hd⟩
   ·exact ⟨fun _=>0,fun h3=>absurd h3 hi⟩
  obtain ⟨T,hT⟩:∃ T:Nat -> Nat -> Rat,∀ i,i < k -> ∀ j,j < n -> E i j=rsum m (fun l=>T i l * G l j):=⟨fun i=>Classical.choose (h2 i),fun i hi=>Classical.choose_spec (h2 i) hi⟩
  obtain ⟨y,hy,a,ha,hya⟩:=zrZ m k (fun l i=>T i l) hlt
  have hz:rsum k (fun i=>y i * E i (p a))=0:=by
   rw [rsum_congr (g:=fun i=>rsum m (fun l=>G l (p a) * (T i l * y i))) (fun i hi=>by
    rw [hT i hi _ (h.lt a ha),<- zrj]; exact rsum_congr fun l _=>by grind),zrl]
   exact zrb fun l hl=>by rw [zrj,hy l hl,Rat.mul_zero]
  rw [rsum_congr (g:=fun i=>y i * (if i=a then 1 else 0)) (fun i hi=>by rw [h.one i a hi ha]),zra ha,Rat.mul_one] at hz
  exact hya hz
 ·exact hge
def RkIs (n r:Nat) (Q:Nat -> Nat -> Rat) (k:Nat):Prop:=∃ E p,Rre n k E p/\(∀ i,i < k -> InSp n r Q (E i))/\∀ i,i < r -> InSp n k E (Q i)
theorem RkIs.unique {n r k k':Nat} {Q:Nat -> Nat -> Rat} (h:RkIs n r Q k) (h':RkIs n r Q k'):k=k':=by
 obtain ⟨E,p,h1,h2,h3⟩:=h
 obtain ⟨E',p',h1',h2',h3'⟩:=h'
 exact (h1.unique h1' (fun i hi=>zre h3' (h2 i hi)) (fun i hi=>zre h3 (h2' i hi))).1
theorem RkIs.le {n r k:Nat} {Q:Nat -> Nat -> Rat} (h:RkIs n r Q k):k <= r:=by
 obtain ⟨E,p,h1,h2,_⟩:=h
 exact zsn h1 h2
theorem zrN {n r k k':Nat} {Q:Nat -> Nat -> Rat} (h:RkIs n r Q k) (h':RkIs r n (fun j i=>Q i j) k'):k' <= k:=by
 obtain ⟨E,p,h1,h2,h3⟩:=h
 obtain ⟨F,f,h1',h2',h3'⟩:=h'
 have hc:∀ j,j < n -> InSp r k (fun l i=>Q i (p l)) (fun i=>Q i j):=fun j hj=>⟨fun l=>E l j,fun i hi=>by
  have:=h1.spans (h3 i hi) j hj
  show Q i j=_
  rw [this]; exact rsum_congr fun l _=>Rat.mul_comm _ _⟩
 exact zsn h1' (fun i hi=>zre hc (h2' i hi))
theorem zsZ {n r k k':Nat} {Q:Nat -> Nat -> Rat} (h:RkIs n r Q k) (h':RkIs r n (fun j i=>Q i j) k'):k'=k:=
 Nat.le_antisymm (zrN h h') (zrN (Q:=fun j i=>Q i j) h' h)
theorem ztu {c L q r:Rat} (h:L ≠ 0) (e:r=L * q):c * q=c / L * r:=by rw [e]; grind
theorem zrX {n r:Nat} {Q R:Nat -> Nat -> Rat} {L:Nat -> Rat} (h0:∀ i,i < r -> L i ≠ 0) (h:∀ i,i < r -> ∀ j,j < n -> R i j=L i * Q i j) {v:Nat -> Rat}:InSp n r R v ↔ InSp n r Q v:=by
 constructor
 ·rintro ⟨c, hc⟩
  exact ⟨fun i=>c i * L i,fun j hj=>by rw [hc j hj]; exact rsum_congr fun i hi=>by rw [h i hi j hj,Rat.mul_assoc]⟩
 ·rintro ⟨c, hc⟩
  exact ⟨fun i=>c i / L i,fun j hj=>by rw [hc j hj]; exact rsum_congr fun i hi=>ztu (h0 i hi) (h i hi j hj)⟩
theorem zrG {n r:Nat} {Q:Nat -> Nat -> Rat} {v u:Nat -> Rat} (h:∀ j,j < n -> v j=u j) (hv:InSp n r Q v):InSp n r Q u:=by
 obtain ⟨c,hc⟩:=hv
 exact ⟨c,fun j hj=>by rw [<- h j hj]; exact hc j hj⟩
theorem zsc {n r:Nat} {Q R:Nat -> Nat -> Rat} {v:Nat -> Rat} (h:∀ i,i < r -> ∀ j,j < n -> Q i j=R i j) (hv:InSp n r Q v):InSp n r R v:=by
 obtain ⟨c,hc⟩:=hv
 exact ⟨c,fun j hj=>by rw [hc j hj]; exact rsum_congr fun i hi=>by rw [h i hi j hj]⟩
def mirR (n:Nat) (Q:Nat -> Nat -> Rat) (i j:Nat):Rat:=Q i (n - 1 - j)
theorem zrk {n r:Nat} {Q:Nat -> Nat -> Rat} {v:Nat -> Rat} (hv:InSp n r Q v):InSp n r (mirR n Q) (fun j=>v (n - 1 - j)):=by
 obtain ⟨c,hc⟩:=hv
 exact ⟨c,fun j hj=>hc (n - 1 - j) (by omega)⟩
theorem zsi {n:Nat} {Q:Nat -> Nat -> Rat} {i j:Nat} (hj:j < n):mirR n (mirR n Q) i j=Q i j:=by
 unfold mirR; rw [show n - 1 - (n - 1 - j)=j by omega]
theorem zsD {n r k k':Nat} {Q:Nat -> Nat -> Rat} (h:RkIs n r Q k) (h':RkIs n r (mirR n Q) k'):k=k':=by
 obtain ⟨E,p,h1,h2,h3⟩:=h
 obtain ⟨F,f,h1',h2',h3'⟩:=h'
 refine Nat.le_antisymm (zsn h1 (G:=mirR n F) fun i hi=>zre (F:=mirR n F) (fun l hl=>?_) (h2 i hi)) (zsn h1' (G:=mirR n E) fun i hi=>zre (fun l hl=>?_) (h2' i hi))
 ·exact zrG (fun j hj=>zsi (Q:=Q) (i:=l) hj) (zrk (h3' l hl))
 ·exact zrk (h3 l hl)
theorem ztl {n k d:Nat} {E V:Nat -> Nat -> Rat} {p f:Nat -> Nat} (hone:∀ i m,i < k -> m < k -> E i (p m)=if i=m then 1 else 0) (hs:Split n k d p f) (hV:Free k d E p f V):∀ l,l < d -> Nul n k E (V l):=fun l hl i hi=>by
 rw [zrB hs,rsum_congr (n:=k) (g:=fun m=>(- E m (f l)) * (if m=i then 1 else 0)) (fun m hm=>by
   rw [hone i m hi hm,hV.at_p l m hl hm,Rat.mul_comm]
   by_cases e:i=m
   ·rw [if_pos e,if_pos e.symm]
   ·rw [if_neg e,if_neg (fun e2=>e e2.symm)]),zra hi,
  rsum_congr (n:=d) (g:=fun m=>E i (f m) * (if m=l then 1 else 0)) (fun m hm=>by
   rw [hV.at_f l m hl hm]
   by_cases e:l=m
   ·rw [if_pos e,if_pos e.symm]
   ·rw [if_neg e,if_neg (fun e2=>e e2.symm)]),zra hl]
 grind
theorem zs5 {n k r:Nat} {E V:Nat -> Nat -> Rat} {p f:Nat -> Nat} (hone:∀ i m,i < k -> m < k -> E i (p m)=if i=m then 1 else 0) (hs:Split n k r p f) (hV:Free k r E p f V) {x:Nat -> Rat} (hx:Nul n k E x):InSp n r V x:=by
 refine ⟨fun l=>x (f l),fun j hj=>?_⟩
 rcases hs.cov j hj with ⟨i,hi,rfl⟩ | ⟨l,hl,rfl⟩
 ·have h := hx i hi
  rw [zrB hs,rsum_congr (n:=k) (g:=fun m=>x (p m) * (if m=i then 1 else 0)) (fun m hm=>by
   rw [hone i m hi hm,Rat.mul_comm]
   by_cases e:i=m
   ·rw [if_pos e,if_pos e.symm]
   ·rw [if_neg e,if_neg (fun e2=>e e2.symm)]),zra hi] at h
  rw [rsum_congr (g:=fun l => - (E i (f l) * x (f l))) (fun l hl=>by rw [hV.at_p l i hl hi]; grind),zsW]
  grind
 ·rw [rsum_congr (g:=fun m=>x (f m) * (if m=l then 1 else 0)) (fun m hm=>by rw [hV.at_f m l hm hl]),zra hl,Rat.mul_one]
theorem zrv:∀ n:Nat,rsum n (fun _=>1)=(n:Rat)
 | 0=>rfl
 | n+1=>by unfold rsum; rw [zrv n]; exact (Rat.natCast_add n 1).symm
theorem zsC {n k d:Nat} {p f:Nat -> Nat} (hs:Split n k d p f):k+d=n:=by
 have h:=zrB hs (fun _=>1)
 rw [zrv,zrv,zrv,<- Rat.natCast_add] at h
 exact (Rat.natCast_inj.1 h).symm
structure KerIs (n r:Nat) (Q:Nat -> Nat -> Rat) (d:Nat) (V:Nat -> Nat -> Rat) (f:Nat -> Nat):Prop where
 rre:Rre n d V f
 nul:∀ l,l < d -> Nul n r Q (V l)
 sp:∀ x,Nul n r Q x -> InSp n d V x
theorem ztv {n r k d:Nat} {Q E V:Nat -> Nat -> Rat} {p p' f:Nat -> Nat} (h:Rre n k E p) (h2:∀ i,i < k -> InSp n r (mirR n Q) (E i)) (h3:∀ i,i < r -> InSp n k E (mirR n Q i)) (hp:∀ i,i < k -> p' i=n - 1 - p i)
  (hs:Split n k d p' f) (hV:Free k d (mirR n E) p' f V) (hinc:∀ i m,i < m -> m < d -> f i < f m):KerIs n r Q d V f:=by
 have hone:∀ i m,i < k -> m < k -> mirR n E i (p' m)=if i=m then 1 else 0:=fun i m hi hm=>by
  have:=h.lt m hm
  unfold mirR
  rw [hp m hm,show n - 1 - (n - 1 - p m)=p m by omega]; exact h.one i m hi hm
 have hq:∀ i,i < r -> InSp n k (mirR n E) (Q i):=fun i hi=>zrG (fun j hj=>zsi (Q:=Q) (i:=i) hj) (zrk (h3 i hi))
 have he:∀ i,i < k -> InSp n r Q (mirR n E i):=fun i hi=>zsc (Q:=mirR n (mirR n Q)) (fun i _ j hj=>zsi hj) (zrk (h2 i hi))
 exact ⟨zs8 hs hV hinc (fun i hi j hj hjn=>by
  have:=h.lt i hi
  have:=hp i hi
  unfold mirR; exact h.low i hi _ (by omega)),fun l hl=>zsq hq (ztl hone hs hV l hl),fun x hx=>zs5 hone hs hV (zsq he hx)⟩
theorem KerIs.unique {n r d d':Nat} {Q V V':Nat -> Nat -> Rat} {f f':Nat -> Nat} (h:KerIs n r Q d V f) (h':KerIs n r Q d' V' f'):d=d'/\∀ i,i < d -> ∀ j,j < n -> V i j=V' i j:=by
 obtain ⟨a,_,b⟩:=h.rre.unique h'.rre (fun i hi=>h'.sp _ (h.nul i hi)) (fun i hi=>h.sp _ (h'.nul i hi))
 exact ⟨a,b⟩
def qR (rows:List (List Rat)) (i j:Nat):Rat:=(rows.getD i []).getD j 0
theorem zrL (qs:List Rat):∀ i,0 < lcmQ qs i
 | 0=>by show (0:Int) < 1; decide
 | i+1=>by
  have ih:=zrL qs i
  obtain ⟨L,hL⟩:∃ L,lcmQ qs i=L:=⟨_,rfl⟩
  show 0 < lcmQ qs i * flr ((qs.getD i 0).den:Int) ((Nat.gcd (lcmQ qs i).natAbs ((qs.getD i 0).den:Int).natAbs:Nat):Int)
  rw [hL] at ih ⊢
  have hd:0 < (qs.getD i 0).den:=(qs.getD i 0).den_pos
  obtain ⟨d,hd2⟩:∃ d,(qs.getD i 0).den=d:=⟨_,rfl⟩
  rw [hd2] at hd ⊢
  rw [Int.natAbs_natCast]
  have hg:0 < Nat.gcd L.natAbs d:=Nat.gcd_pos_of_pos_right _ hd
  rw [zeo (by omega)]
  refine Int.mul_pos ih ?_
  have h1:0 < d / Nat.gcd L.natAbs d:=Nat.div_pos (Nat.le_of_dvd hd (Nat.gcd_dvd_right _ _)) hg
  have h2:((d:Int) / ((Nat.gcd L.natAbs d:Nat):Int))=((d / Nat.gcd L.natAbs d:Nat):Int):=rfl
  omega
theorem zsF (qs:List Rat) (i:Nat):∃ c:Int,lcmQ qs (i+1)=lcmQ qs i * c/\((qs.getD i 0).den:Int) ∣ lcmQ qs (i+1):=by
 have ih:=zrL qs i
 show ∃ c:Int,lcmQ qs i * flr ((qs.getD i 0).den:Int) ((Nat.gcd (lcmQ qs i).natAbs ((qs.getD i 0).den:Int).natAbs:Nat):Int)=lcmQ qs i * c/\((qs.getD i 0).den:Int) ∣ lcmQ qs i * flr ((qs.getD i 0).den:Int) ((Nat.gcd (lcmQ qs i).natAbs ((qs.getD i 0).den:Int).natAbs:Nat):Int)
 refine ⟨_,rfl,?_⟩
 obtain ⟨L,hL⟩:∃ L,lcmQ qs i=L:=⟨_,rfl⟩
 rw [hL] at ih ⊢
 have hd:0 < (qs.getD i 0).den:=(qs.getD i 0).den_pos
 obtain ⟨d,hd2⟩:∃ d,(qs.getD i 0).den=d:=⟨_,rfl⟩
 rw [hd2] at hd ⊢
 rw [Int.natAbs_natCast]
 have hg:0 < Nat.gcd L.natAbs d:=Nat.gcd_pos_of_pos_right _ hd
 rw [zeo (by omega)]
 obtain ⟨a,ha⟩:=Nat.gcd_dvd_left L.natAbs d
 obtain ⟨b,hb⟩:=Nat.gcd_dvd_right L.natAbs d
 obtain ⟨g,hg2⟩:∃ g,Nat.gcd L.natAbs d=g:=⟨_,rfl⟩
 rw [hg2] at ha hb hg ⊢
 have h2:((d:Int) / (g:Int))=(b:Int):=by
  rw [hb,Int.natCast_mul]; exact Int.mul_ediv_cancel_left _ (by omega)
 have hL2:L=(g:Int) * a:=by rw [<- Int.natCast_mul,<- ha]; omega
 rw [h2]
 exact ⟨a,by rw [hL2,hb,Int.natCast_mul]; grind⟩
theorem zsr (qs:List Rat):∀ i j,j < i -> ((qs.getD j 0).den:Int) ∣ lcmQ qs i
 | 0,j,h=>by omega
 | i+1,j,h=>by
  obtain ⟨c,h1,h2⟩:=zsF qs i
  by_cases e:j=i
  ·rw [e]; exact h2
  ·rw [h1]; exact Int.dvd_trans (zsr qs i j (by omega)) ⟨c,rfl⟩
theorem zsU (qs:List Rat) (j:Nat):(((zb8 qs).getD j 0:Int):Rat)=(lcmQ qs qs.length:Rat) * qs.getD j 0:=by
 by_cases hj:j < qs.length
 ·have e:(zb8 qs).getD j 0=(qs.getD j 0).num * flr (lcmQ qs qs.length) ((qs.getD j 0).den:Int):=by
   unfold zb8
   rw [zy0,zy1,zy0,zg hj]; rfl
  have hdv:=zsr qs qs.length j hj
  obtain ⟨q,hq⟩:∃ q,qs.getD j 0=q:=⟨_,rfl⟩
  rw [hq] at hdv
  rw [e,hq]
  obtain ⟨a,ha⟩:=hdv
  have hd:(q.den:Int) ≠ 0:=by have:=q.den_pos; omega
  rw [ha,zsI hd,Rat.intCast_mul,Rat.intCast_mul]
  have h3:(q.num:Rat)=((q.den:Int):Rat) * q:=by
   have h4:=Rat.num_divInt_den q
   rw [Rat.divInt_eq_div] at h4
   have h5:((q.den:Int):Rat) ≠ 0:=zr8 hd
   conv=>rhs; rw [<- h4]
   grind
  rw [h3]; grind
 ·rw [zy0, List.getElem?_eq_none (by simpa [zb8] using Nat.le_of_not_lt hj), zy0, List.getElem?_eq_none (by omega)]
  show ((0:Int):Rat)=_ * (0:Rat)
  rw [Rat.mul_zero]; rfl
theorem zrC (rows:List (List Rat)) (i j:Nat):((rowZ (rows.map zb8) i j:Int):Rat)=(lcmQ (rows.getD i []) (rows.getD i []).length:Rat) * qR rows i j:=by
 have e:(rows.map zb8).getD i []=zb8 (rows.getD i []):=by
  rw [zy0,zy1,zy0]
  cases rows[i]? <;> rfl
 unfold rowZ qR
 rw [e]; exact zsU _ j
theorem zr0 (rows:List (List Rat)) (i:Nat):(lcmQ (rows.getD i []) (rows.getD i []).length:Rat) ≠ 0:=zr8 (by have:=zrL (rows.getD i []) (rows.getD i []).length; omega)
theorem zsA {rows:List (List Rat)} {n:Nat} (hm:∀ r ∈ rows,r.length=n):
  Rre n (elGo n (rows.map zb8) n).piv.length (elE (elGo n (rows.map zb8) n)) (elP (elGo n (rows.map zb8) n))/\(∀ i,i < (elGo n (rows.map zb8) n).piv.length -> InSp n rows.length (qR rows) (elE (elGo n (rows.map zb8) n) i)) /\
  (∀ i,i < rows.length -> InSp n (elGo n (rows.map zb8) n).piv.length (elE (elGo n (rows.map zb8) n)) (qR rows i))/\(∀ i,i < (elGo n (rows.map zb8) n).piv.length -> ((elGo n (rows.map zb8) n).piv.getD i 0=(elP (elGo n (rows.map zb8) n) i:Int))):=by
 obtain ⟨h1,h2,h3,h4,_,_⟩:=zsK (n:=n) (r:=rows.length) (rows:=rows.map zb8) (by simp) (fun zs hz=>by
  obtain ⟨r,hr,rfl⟩:=List.mem_map.1 hz
  simpa [zb8] using hm r hr)
 refine ⟨h1,fun i hi=>(zrX (fun i _=>zr0 rows i) (fun i _ j _=>zrC rows i j)).1 (h2 i hi),fun i hi=>?_,h4⟩
 obtain ⟨c,hc⟩:=h3 i hi
 exact ⟨fun l=>c l / (lcmQ (rows.getD i []) (rows.getD i []).length:Rat),fun j hj=>by
  have h5:=hc j hj
  have h6:=zr0 rows i
  dsimp only at h5
  rw [zrC] at h5
  rw [rsum_congr (g:=fun l=>c l * elE (elGo n (rows.map zb8) n) l j * (1 / (lcmQ (rows.getD i []) (rows.getD i []).length:Rat))) (fun l _=>zso),zrf,<- h5]
  exact rat_c h6⟩
theorem zsS {rows:List (List Rat)} {n:Nat} (hm:∀ r ∈ rows,r.length=n):RkIs n rows.length (qR rows) (elGo n (rows.map zb8) n).piv.length:=by
 obtain ⟨h1,h2,h3,_⟩:=zsA hm
 exact ⟨_,_,h1,h2,h3⟩
theorem zrt {k:Int}:∀ {l:List Int} {i:Nat},zaN l k i=none -> k ∉ l
 | [],_,_=>by simp
 | a :: l,i,h=>by
  unfold zaN at h
  split at h
  ·cases h
  ·next e =>
   intro hm
   rcases List.mem_cons.1 hm with h2 | h2
   ·exact e h2
   ·exact zrt h h2
theorem zsl {K:List Int} {i:Nat} {x:Int} (hx:K[i]?=some x) (hinj:∀ (a b:Nat) (y:Int),K[a]?=some y -> K[b]?=some y -> a=b):zaN K x 0=some i:=by
 cases h:zaN K x 0 with
 | none=>exact absurd (zk hx) (zrt h)
 | some r=>
  obtain ⟨_,h2⟩:=zdS h
  rw [hinj r i x (by simpa using h2) hx]
theorem zsX {zss:List (List Int)} {n i j:Nat} (hm:∀ zs ∈ zss,zs.length=n) (hi:i < zss.length) (hj:j < n):rowZ (zss.map List.reverse) i j=rowZ zss i (n - 1 - j):=by
 have e:(zss.map List.reverse).getD i []=(zss.getD i []).reverse:=by
  rw [zy0,zy1,zy0]
  cases zss[i]? <;> rfl
 have hl:(zss.getD i []).length=n:=hm _ (zcc hi)
 unfold rowZ
 rw [e]
 obtain ⟨z,hz⟩:∃ z,zss.getD i []=z:=⟨_,rfl⟩
 rw [hz] at hl ⊢
 rw [zy0,List.getElem?_reverse (by omega),hl,zy0]
def freeL (K:List Int) (n:Nat):List Int:=((List.range n).map fun (j:Nat)=>(j:Int)).filter fun x => !(zaN K x 0).isSome
theorem zsH (K:List Int) (n:Nat):(freeL K n).Pairwise (· < ·):=by
 unfold freeL
 refine List.Pairwise.filter _ ?_
 rw [List.pairwise_map]
 exact List.Pairwise.imp (fun h=>by omega) List.pairwise_lt_range
theorem zsG {K:List Int} {n:Nat} {x:Int}:x ∈ freeL K n ↔ 0 <= x/\x < (n:Int)/\x ∉ K:=by
 unfold freeL
 rw [List.mem_filter,List.mem_map]
 constructor
 ·rintro ⟨⟨j, hj, rfl⟩, h⟩
  refine ⟨by omega,by have:=List.mem_range.1 hj; omega,fun hm=>?_⟩
  cases hf:zaN K (j:Int) 0 with
  | none=>exact zrt hf hm
  | some r=>rw [hf] at h; simp at h
 ·rintro ⟨h0, h1, h2⟩
  refine ⟨⟨x.toNat,List.mem_range.2 (by omega),by omega⟩,?_⟩
  rw [zdT x K 0 (fun a ha e=>h2 (e ▸ ha))]; rfl
theorem ztw {rows:List (List Rat)} {n:Nat} (hm:∀ r ∈ rows,r.length=n) {S:ElS} (hS:elGo n ((rows.map zb8).map List.reverse) n=S) {K Fr:List Int} (hK:S.piv.map (fun x=>((n:Int) - 1) - x)=K) (hF:freeL K n=Fr):
  KerIs n rows.length (qR rows) Fr.length (kerX S K Fr n) (fun l=>(Fr.getD l 0).toNat)/\(∃ k,RkIs n rows.length (mirR n (qR rows)) k/\k+Fr.length=n/\S.piv.length=k):=by
 have hz:∀ zs ∈ rows.map zb8,zs.length=n:=fun zs hz=>by
  obtain ⟨r,hr,rfl⟩:=List.mem_map.1 hz
  simpa [zb8] using hm r hr
 obtain ⟨h1,h2,h3,h4,hf0,_⟩:=zsK (n:=n) (r:=rows.length) (rows:=(rows.map zb8).map List.reverse) (by simp) (fun zs hz2=>by
  obtain ⟨r,hr,rfl⟩:=List.mem_map.1 hz2
  rw [List.length_reverse]; exact hz r hr)
 rw [hS] at h1 h2 h3 h4 hf0
 have hrow:∀ i,i < rows.length -> ∀ j,j < n -> ((rowZ ((rows.map zb8).map List.reverse) i j:Int):Rat)=(lcmQ (rows.getD i []) (rows.getD i []).length:Rat) * mirR n (qR rows) i j:=fun i hi j hj=>by
  rw [zsX hz (by simpa using hi) hj,zrC]; rfl
 have h2':∀ i,i < S.piv.length -> InSp n rows.length (mirR n (qR rows)) (elE S i):=fun i hi=>(zrX (fun i _=>zr0 rows i) hrow).1 (h2 i hi)
 have h3':∀ i,i < rows.length -> InSp n S.piv.length (elE S) (mirR n (qR rows) i):=fun i hi=>by
  obtain ⟨c,hc⟩:=h3 i hi
  exact ⟨fun l=>c l / (lcmQ (rows.getD i []) (rows.getD i []).length:Rat),fun j hj=>by
   have h5:=hc j hj
   have h6:=zr0 rows i
   dsimp only at h5
   rw [hrow i hi j hj] at h5
   rw [rsum_congr (g:=fun l=>c l * elE S l j * (1 / (lcmQ (rows.getD i []) (rows.getD i []).length:Rat))) (fun l _=>zso),zrf,<- h5]
   exact rat_c h6⟩
 have hKl:K.length=S.piv.length:=by rw [<- hK]; simp
 have hKat:∀ i,i < S.piv.length -> K[i]?=some (((n - 1 - elP S i:Nat)):Int):=fun i hi=>by
  have h5:=h4 i hi
  have h6:=h1.lt i hi
  rw [<- hK,zy1,zg hi]
  rw [zy0,zg hi] at h5
  show some (((n:Int) - 1) - S.piv[i])=_
  have h7:S.piv[i]=(elP S i:Int):=h5
  rw [h7]; congr 1; omega
 have hKinj:∀ (a b:Nat) (y:Int),K[a]?=some y -> K[b]?=some y -> a=b:=fun a b y ha hb=>by
  have la:a < S.piv.length:=by rw [<- hKl]; exact (zh.1 ha).1
  have lb:b < S.piv.length:=by rw [<- hKl]; exact (zh.1 hb).1
  rw [hKat a la] at ha; rw [hKat b lb] at hb
  have e1:=zl ha; have e2:=zl hb
  have:=h1.lt a la; have:=h1.lt b lb
  have e3:elP S a=elP S b:=by omega
  rcases Nat.lt_trichotomy a b with hl | hl | hl
  ·have:=h1.inc a b hl lb; omega
  ·exact hl
  ·have:=h1.inc b a hl la; omega
 have hasc:Fr.Pairwise (· < ·):=by rw [<- hF]; exact zsH K n
 have hmem:∀ x,x ∈ Fr ↔ 0 <= x/\x < (n:Int)/\x ∉ K:=fun x=>by rw [<- hF]; exact zsG
 have hFat:∀ l,l < Fr.length -> ∃ x:Nat,Fr[l]?=some (x:Int)/\(Fr.getD l 0).toNat=x/\Fr.getD l 0=(x:Int)/\x < n/\(x:Int) ∉ K:=fun l hl=>by
  have h5:=(hmem Fr[l]).1 (List.getElem_mem hl)
  have e:Fr.getD l 0=Fr[l]:=za3 (zg hl)
  exact ⟨Fr[l].toNat,by rw [zg hl]; congr 1; omega,by rw [e],by rw [e]; omega,by omega,by rw [Int.toNat_of_nonneg h5.1]; exact h5.2.2⟩
 have hinc:∀ i m,i < m -> m < Fr.length -> (Fr.getD i 0).toNat < (Fr.getD m 0).toNat:=fun i m him hmm=>by
  obtain ⟨x,hx,hx2,_⟩:=hFat i (by omega)
  obtain ⟨y,hy,hy2,_⟩:=hFat m hmm
  have:=List.pairwise_iff_getElem.1 hasc i m (by omega) hmm him
  have ex:=(zh.1 hx).2
  have ey:=(zh.1 hy).2
  rw [hx2,hy2]; omega
 have hsplit:Split n S.piv.length Fr.length (fun i=>n - 1 - elP S i) (fun l=>(Fr.getD l 0).toNat):={
  plt:=fun i hi=>by have:=h1.lt i hi; show n - 1 - elP S i < n; omega
  flt:=fun l hl=>by obtain ⟨x,_,e,_,h,_⟩:=hFat l hl; show (Fr.getD l 0).toNat < n; omega
  pinj:=fun i m hi hm e=>hKinj i m _ (hKat i hi) (by rw [hKat m hm,<- show n - 1 - elP S i=n - 1 - elP S m from e])
  finj:=fun i m hi hm e=>by
   rcases Nat.lt_trichotomy i m with hl | hl | hl
   ·have:=hinc i m hl hm; have e:(Fr.getD i 0).toNat=(Fr.getD m 0).toNat:=e; omega
   ·exact hl
   ·have:=hinc m i hl hi; have e:(Fr.getD i 0).toNat=(Fr.getD m 0).toNat:=e; omega
  dis:=fun i l hi hl e=>by
   obtain ⟨x,_,e2,_,_,h⟩:=hFat l hl
   have e:n - 1 - elP S i=(Fr.getD l 0).toNat:=e
   exact h (by rw [<- e2,<- e]; exact zk (hKat i hi))
  cov:=fun j hj=>by
   by_cases hm2:(j:Int) ∈ K
   ·obtain ⟨i, hi⟩ := List.mem_iff_getElem?.1 hm2
    have li:i < S.piv.length:=by rw [<- hKl]; exact (zh.1 hi).1
    rw [hKat i li] at hi
    exact .inl ⟨i,li,by have:=zl hi; show n - 1 - elP S i=j; omega⟩
   ·obtain ⟨l, hl⟩ := List.mem_iff_getElem?.1 ((hmem (j : Int)).2 ⟨by omega, by omega, hm2⟩)
    exact .inr ⟨l,(zh.1 hl).1,by show (Fr.getD l 0).toNat=j; rw [za3 hl]; rfl⟩ }
 have hfree:Free S.piv.length Fr.length (mirR n (elE S)) (fun i=>n - 1 - elP S i) (fun l=>(Fr.getD l 0).toNat) (kerX S K Fr n):={
  at_f:=fun l m hl hm2=>by
   obtain ⟨x,_,ex,ex2,_,_⟩:=hFat l hl
   obtain ⟨y,_,ey,ey2,_,hy⟩:=hFat m hm2
   unfold kerX
   rw [ey,zdT (y:Int) K 0 (fun a ha e=>hy (e ▸ ha))]
   show (if (y:Int)=Fr.getD l 0 then (1:Rat) else 0)=_
   by_cases e:l=m
   ·rw [if_pos e,if_pos (by rw [e,ey2])]
   ·rw [if_neg e,if_neg (fun e2=>e (hsplit.finj l m hl hm2 (by show (Fr.getD l 0).toNat=(Fr.getD m 0).toNat; rw [<- e2,ey2])))]
  at_p:=fun l i hl hi=>by
   obtain ⟨x,_,ex,_,hxn,_⟩:=hFat l hl
   unfold kerX
   rw [zsl (hKat i hi) hKinj,ex]
   show -(Rat.divInt ((S.rows.getD i []).getD (n - 1 - x) 0) S.fac) = - mirR n (elE S) i x
   rw [Rat.divInt_eq_div]; rfl }
 refine ⟨ztv h1 h2' h3' (fun i _=>rfl) hsplit hfree hinc,S.piv.length,⟨_,_,h1,h2',h3'⟩,zsC hsplit,rfl⟩
structure Bn (q:Rat) (N D:Nat):Prop where
 num:q.num.natAbs <= N
 den:q.den <= D
theorem zsP {a:Int} {b:Int} (hb:b ≠ 0):Bn (Rat.divInt a b) a.natAbs b.natAbs:=by
 have hd:0 < b.natAbs:=by omega
 constructor
 ·rw [Rat.num_divInt]
  have h1:b.sign.natAbs <= 1:=by
   rcases Int.lt_or_gt_of_ne hb with h | h
   ·rw [Int.sign_eq_neg_one_of_neg h]; decide
   ·rw [Int.sign_eq_one_of_pos h]; decide
  refine zo (Int.natAbs_ediv_le_natAbs _ _) ?_
  rw [Int.natAbs_mul]
  have:=Nat.mul_le_mul h1 (zv a.natAbs)
  omega
 ·rw [Rat.den_divInt]
  split
  ·omega
  ·exact Nat.div_le_self _ _
theorem Bn.mono {q:Rat} {N D N' D':Nat} (h:Bn q N D) (hn:N <= N') (hd:D <= D'):Bn q N' D':=⟨zo h.num hn,zo h.den hd⟩
theorem Bn.mul {p q:Rat} {N D N' D':Nat} (h:Bn p N D) (h':Bn q N' D'):Bn (p * q) (N * N') (D * D'):=by
 have e:p * q=Rat.divInt (p.num * q.num) ((p.den * q.den:Nat):Int):=by
  rw [Rat.mul_def']; rfl
 rw [e]
 have hz:((p.den * q.den:Nat):Int) ≠ 0:=by have:=Nat.mul_pos p.den_pos q.den_pos; omega
 refine (zsP hz).mono ?_ ?_
 ·rw [Int.natAbs_mul]; exact Nat.mul_le_mul h.num h'.num
 ·rw [Int.natAbs_natCast]; exact Nat.mul_le_mul h.den h'.den
theorem Bn.add {p q:Rat} {N D N' D':Nat} (h:Bn p N D) (h':Bn q N' D'):Bn (p+q) (N * D'+N' * D) (D * D'):=by
 have e:p+q=Rat.divInt (p.num * q.den+q.num * p.den) ((p.den * q.den:Nat):Int):=by
  rw [Rat.add_def']; rfl
 rw [e]
 have hz:((p.den * q.den:Nat):Int) ≠ 0:=by have:=Nat.mul_pos p.den_pos q.den_pos; omega
 refine (zsP hz).mono ?_ ?_
 ·refine zo (Int.natAbs_add_le _ _) ?_
  rw [Int.natAbs_mul,Int.natAbs_mul,Int.natAbs_natCast,Int.natAbs_natCast]
  exact Nat.add_le_add (Nat.mul_le_mul h.num h'.den) (Nat.mul_le_mul h'.num h.den)
 ·rw [Int.natAbs_natCast]; exact Nat.mul_le_mul h.den h'.den
theorem zsJ {a b:Int} (h:b ≠ 0):(flr a b).natAbs <= a.natAbs:=by
 unfold flr
 split
 ·rw [<- Int.natAbs_neg a]; exact Int.natAbs_ediv_le_natAbs _ _
 ·exact Int.natAbs_ediv_le_natAbs _ _
def bndE (B:Nat):Nat -> Nat
 | 0=>B
 | t+1=>2 * (bndE B t * bndE B t)
theorem zr3 {B:Nat} (h:1 <= B):∀ t,1 <= bndE B t
 | 0=>h
 | t+1=>by
  have:=zr3 h t
  have:=Nat.mul_le_mul this this
  show 1 <= 2 * (bndE B t * bndE B t); omega
theorem zrT {B:Nat} (h:1 <= B) (t:Nat):bndE B t <= bndE B (t+1):=by
 have h1:=zr3 h t
 have:=Nat.le_mul_of_pos_right (bndE B t) h1
 show _ <= 2 * (bndE B t * bndE B t); omega
theorem zsO {B:Nat} (h:1 <= B) {t u:Nat} (e:t <= u):bndE B t <= bndE B u:=by
 induction u with
 | zero=>
  obtain rfl:t=0:=by omega
  exact zv _
 | succ u ih=>
  by_cases e2:t=u+1
  ·rw [e2]; exact zv _
  ·exact zo (ih (by omega)) (zrT h u)
theorem zsY {rows:List (List Int)} {B:Nat} (h:∀ zs ∈ rows,∀ z ∈ zs,z.natAbs <= B) (i j:Nat):(rowZ rows i j).natAbs <= B:=by
 unfold rowZ
 rw [zy0,zy0]
 cases hr:rows[i]? with
 | none=>show (([]:List Int)[j]?.getD 0).natAbs <= B; simp
 | some r=>
  show (r[j]?.getD 0).natAbs <= B
  cases hz:r[j]? with
  | none=>show (0:Int).natAbs <= B; simp
  | some z=>exact h r (zk hr) z (zk hz)
theorem zte {n:Nat} {rows:List (List Int)} {B:Nat} (hB:1 <= B) (hm:∀ zs ∈ rows,zs.length=n) (h:∀ i j,(rowZ rows i j).natAbs <= B):∀ c,(∀ i j,(rowZ (elGo n rows c).rows i j).natAbs <= bndE B (elGo n rows c).piv.length)/\(elGo n rows c).fac.natAbs <= bndE B (elGo n rows c).piv.length
 | 0=>⟨h,hB⟩
 | c+1=>by
  obtain ⟨a,b⟩:=zte hB hm h c
  obtain ⟨N,A,q,hI⟩:=EInv.go (r:=rows.length) rfl hm c
  obtain ⟨s,hs⟩:∃ s,elGo n rows c=s:=⟨_,rfl⟩
  rw [hs] at a b hI
  show (∀ i j,(rowZ (zdV n (elGo n rows c) c).rows i j).natAbs <= bndE B (zdV n (elGo n rows c) c).piv.length)/\(zdV n (elGo n rows c) c).fac.natAbs <= bndE B (zdV n (elGo n rows c) c).piv.length
  rw [hs]
  rcases zgM s.rows s.piv.length c with hn | ⟨f,hf,hlt,hne⟩
  ·rw [zdB hn]; exact ⟨a,b⟩
  ·rw [zfT hf]
   dsimp only
   have hpk:s.piv.length < s.rows.length:=by omega
   obtain ⟨S,hS⟩:∃ S,swapR s.rows s.piv.length (s.piv.length+f)=S:=⟨_,rfl⟩
   have hSl:S.length=s.rows.length:=by rw [<- hS,zcT]
   have hSm:∀ zs ∈ S,zs.length=n:=fun zs hz=>hI.ml zs (by
    rw [<- hS] at hz
    obtain ⟨i,hi⟩:=List.mem_iff_getElem?.1 hz
    rw [zjD hpk hlt] at hi
    split at hi
    ·exact zk hi
    ·split at hi <;> exact zk hi)
   have hSb:∀ i j,(rowZ S i j).natAbs <= bndE B s.piv.length:=fun i j=>by rw [<- hS,zr6 hpk hlt]; exact a _ _
   rw [hS,show (s.piv ++ [(c:Int)]).length=s.piv.length+1 by simp]
   refine ⟨fun i j=>?_,zo (hSb s.piv.length c) (zrT hB _)⟩
   by_cases hi:i < S.length
   ·rw [zrI hSm (by omega) hi hI.f0]
    split
    ·exact zo (hSb _ _) (zrT hB _)
    ·refine zo (zsJ hI.f0) ?_
     rw [Int.sub_eq_add_neg]
     refine zo (Int.natAbs_add_le _ _) ?_
     rw [Int.natAbs_neg,Int.natAbs_mul,Int.natAbs_mul]
     have h1:=Nat.mul_le_mul (hSb i j) (hSb s.piv.length c)
     have h2:=Nat.mul_le_mul (hSb s.piv.length j) (hSb i c)
     show _ <= 2 * (bndE B s.piv.length * bndE B s.piv.length)
     omega
   ·have e:(zcR S s.piv.length c n s.fac).getD i []=[]:=by
     rw [zy0,List.getElem?_eq_none (by simp [zcR]; omega)]; rfl
    unfold rowZ
    rw [e]
    show ((0:Int)).natAbs <= _
    exact Nat.zero_le _
theorem zst {qs:List Rat} {D:Nat} (hD:1 <= D) (h:∀ q ∈ qs,q.den <= D):∀ i,(lcmQ qs i).natAbs <= D ^ i
 | 0=>zv _
 | i+1=>by
  have ih:=zst hD h i
  have hd:(qs.getD i 0).den <= D:=by
   rw [zy0]
   cases hq:qs[i]? with
   | none=>exact hD
   | some q=>exact h q (zk hq)
  have hp:=zrL qs i
  have hg:((Nat.gcd (lcmQ qs i).natAbs ((qs.getD i 0).den:Int).natAbs:Nat):Int) ≠ 0:=by
   have:0 < Nat.gcd (lcmQ qs i).natAbs ((qs.getD i 0).den:Int).natAbs:=Nat.gcd_pos_of_pos_left _ (by omega)
   omega
  show (lcmQ qs i * flr ((qs.getD i 0).den:Int) ((Nat.gcd (lcmQ qs i).natAbs ((qs.getD i 0).den:Int).natAbs:Nat):Int)).natAbs <= D ^ (i+1)
  rw [Int.natAbs_mul,Nat.pow_succ]
  exact Nat.mul_le_mul ih (zo (zsJ hg) (by rw [Int.natAbs_natCast]; exact hd))
theorem zsB {qs:List Rat} {N D:Nat} (hD:1 <= D) (h:∀ q ∈ qs,Bn q N D):∀ z ∈ zb8 qs,z.natAbs <= N * D ^ qs.length:=fun z hz=>by
 obtain ⟨q,hq,rfl⟩:=List.mem_map.1 hz
 rw [Int.natAbs_mul]
 refine Nat.mul_le_mul (h q hq).num (zo (zsJ (by have:=q.den_pos; omega)) (zst hD (fun q hq=>(h q hq).den) _))
class CellAt (w:World) (ad:Addr) (v:outParam Value):Prop where
 out:w.cell? ad=some v
section
variable {w w' W X a:World} {ad:Addr} {v x:Value} {m r i:Nat} {o:Obj}
theorem CellAt.lt (k:CellAt w ad v):ad.block < w.heap.size:=by
 have h:=k.out
 unfold World.cell? at h
 cases hb:w.heap[ad.block]? with
 | none=>rw [hb] at h; cases h
 | some o=>exact (Array.getElem?_eq_some_iff.1 hb).1
theorem CellAt.of_block (k:CellAt w ad v) (h:w'.heap[ad.block]?=w.heap[ad.block]?):CellAt w' ad v:=⟨by
 have h2:=k.out
 unfold World.cell? at h2 ⊢
 rw [h]; exact h2⟩
instance CellAt.was [h:Was W X] [k:CellAt X ad v]:CellAt W ad v:=by rw [h.out]; exact k
instance CellAt.nxt [h:Nxt a w'] [k:CellAt a ad v]:CellAt w' ad v:=k.of_block (h.out.block _ k.lt)
instance CellAt.drew [k:CellAt X ad v]:CellAt X.drew ad v:=⟨k.out⟩
instance CellAt.drewN [k:CellAt X ad v]:CellAt (X.drewN m) ad v:=⟨k.out⟩
instance CellAt.alloc [k:CellAt X ad v]:CellAt (X.alloc o) ad v:=k.of_block (((Below.refl X.heap.size X).alloc (zv _) o).block _ k.lt)
instance CellAt.but {rs:List Nat} [h:ButO a rs w'] [k:CellAt a ad v] [j:NotIn ad.block rs]:CellAt w' ad v:=k.of_block (h.out.block _ k.lt j.out)
@[go_sem] theorem CellAt.cell [k:CellAt w ad v]:w.cell? ad=some v:=k.out
end
section
variable {A:Option Addr} {c n:Nat} {w:World}
theorem zrS {L:List (List UInt8)} (hs:SAt w A L) (hl:L.length=n) (hn:n < 2 ^ 63) (hx:∀ x ∈ L,x.length < 2 ^ 63):
  Calls Tryz.prog 45 #[.slice A n c] w (PRet w (.int .i64 (zay (L.map readE)))):=by
 have hc:∀ (i:Nat) (x:List UInt8),L[i]?=some x -> ∀ w',Nxt w w' -> ∃ ad,A=some ad/\w'.cell? (ad.add i)=some (str x):=fun i x hx w' hn=>(SAt.nxt hs hn) i x hx
 have HC:=zc hc; have HN:=zc hn; have HL:=zc hl
 clear hc hn hl hs
 have HS:=zc hx
 clear hx
 go_enter Tryz.func45,Tryz.ntmps45
 go_wp2_with fail
 go_loopw [3] (fun s3 wr=>∃ i:Nat,s3 = .int .i64 (i:Int)/\i <= n/\(∀ (j:Nat) (y:Int),j < i -> (L.map readE)[j]?=some y -> y=0)/\Nxt w wr) (fun s3 _=>n - (intOf s3).toNat)
 case atStart=>exact ⟨0,rfl,Nat.zero_le _,fun _ _ h=>absurd h (by omega),zaa⟩
 case round=>
  obtain ⟨i,rfl,hi,hok,hx0⟩:=hrel
  have HO:=zc hok
  clear hok
  by_cases hin:i < n
  ·have hlt : decide ((i : Int) < (n : Int)) = true := by simp; omega
   have hlt':(i:Int) < (n:Int):=by omega
   have hadd:IntKind.i64.wrap ((i:Int)+1)=((i+1:Nat):Int):=by have:=HN.out; rw [zx]; omega
   obtain ⟨x,hx⟩:∃ x,L[i]?=some x:=⟨L[i]'(by rw [HL.out]; exact hin),zg _⟩
   obtain ⟨ad,rfl,k3⟩:=HC.out i x hx wr hx0
   have hm:x.length < 2 ^ 63:=HS.out x (zk hx)
   have HX:=zc (show (L.map readE)[i]?=some (readE x) by rw [zy1,hx]; rfl)
   have HK:Hid (∀ w,Calls _ _ _ w _):=zc (fun w=>zkL (l:=x) (w:=w) hm)
   obtain ⟨E,hE⟩:∃ E,readE x=E:=⟨_,rfl⟩
   rw [hE] at HX HK
   clear hx hm hE
   go_wp2_with fail
   refine zf (HK.out _) ?_
   rintro e w1 ⟨rfl,hx1⟩
   by_cases hz:E=0
   ·subst hz
    go_wp2_with fail
    go_roundw
    case rel=>exact ⟨i+1,rfl,hin,fun j y hj hy=>by
     rcases Nat.lt_or_ge j i with h | h
     ·exact HO.out j y h hy
     ·obtain rfl : j = i := by omega
      rw [HX.out] at hy; exact (zl hy).symm,zaa⟩
    case measure=>simp [intOf]; omega
   ·have hnx : (E != 0) = true := by simpa using hz
    go_wp2_with fail
    go_ret
    exact ⟨by rw [zcK HO.out HX.out hz]; rfl,zaa⟩
  ·have hlt : decide ((i : Int) < (n : Int)) = false := by simp; omega
   have hlt':¬ (i:Int) < (n:Int):=by omega
   go_wp2_with fail
   go_ret
   exact ⟨by rw [zcd (fun e he=>by
    obtain ⟨j,hj,rfl⟩:=List.getElem_of_mem he
    exact HO.out j _ (by have:=HL.out; simp at hj; omega) (zg hj))]; rfl,zaa⟩
theorem zrg (ad:Addr):ad.add 0=ad:=by unfold Addr.add; simp
theorem zrV {rows:List (List (List UInt8))} (hm:MAt w A rows) (hl:rows.length=n) (hn:n < 2 ^ 63) (hr:∀ r ∈ rows,r.length < 2 ^ 63) (hx:∀ r ∈ rows,∀ x ∈ r,x.length < 2 ^ 63):
  Calls Tryz.prog 35 #[.slice A n c] w (PRet w (.int .i64 (matE rows))):=by
 have hc:∀ (i:Nat) (r:List (List UInt8)),rows[i]?=some r -> ∀ w',Nxt w w' -> ∃ ad B k d,A=some ad/\CellAt w' (ad.add i) (.slice B k d)/\r.length=k/\SAt w' B r:=fun i r hr w' hn=>by
  obtain ⟨ad,B,k,d,h1,h2,h3,h4⟩:=(MAt.nxt hm hn) i r hr
  exact ⟨ad,B,k,d,h1,⟨h2⟩,h3,h4⟩
 have HC:=zc hc; have HN:=zc hn; have HL:=zc hl
 clear hc hn hl hm
 have HR:=zc hr; have HX:=zc hx
 clear hr hx
 by_cases h0:n=0
 ·have HV := zc (show matE rows = 12 by unfold matE cntE; rw [HL.out, if_pos h0]; rfl)
  have z0:((n:Int) == 0)=true:=by simp; omega
  clear h0
  go_enter Tryz.func35,Tryz.ntmps35
  go_wp2_with fail
  go_ret
  exact ⟨by rw [HV.out]; rfl,zaa⟩
 have z0:((n:Int) == 0)=false:=by simp; omega
 by_cases h64:64 < n
 ·have HV := zc (show matE rows = 5 by unfold matE cntE; rw [HL.out, if_neg h0, if_pos h64]; rfl)
  have z1:decide ((64:Int) < (n:Int))=true:=by simp; omega
  have z1':(64:Int) < (n:Int):=by omega
  clear h0 h64
  go_enter Tryz.func35,Tryz.ntmps35
  go_wp2_with fail
  go_ret
  exact ⟨by rw [HV.out]; rfl,zaa⟩
 have z1:decide ((64:Int) < (n:Int))=false:=by simp; omega
 have z1':¬ (64:Int) < (n:Int):=by omega
 have HV:=zc (show matE rows=zay (rows.map (rowE (rows.headD []).length)) by unfold matE cntE; rw [HL.out,if_neg h0,if_neg h64]; rfl)
 have HN6:=zc (show 0 < n/\n <= 64 by omega)
 obtain ⟨f,hf⟩:∃ f,(rows.headD []).length=f:=⟨_,rfl⟩
 rw [hf] at HV
 have HF:=zc hf
 clear h0 h64 hf
 go_enter Tryz.func35,Tryz.ntmps35
 go_wp2_with fail
 go_loopw [3] (fun s3 wr=>∃ i:Nat,s3 = .int .i64 (i:Int)/\i <= n/\(∀ (j:Nat) (y:Int),j < i -> (rows.map (rowE f))[j]?=some y -> y=0)/\Nxt w wr) (fun s3 _=>n - (intOf s3).toNat)
 case atStart=>exact ⟨0,rfl,Nat.zero_le _,fun _ _ h=>absurd h (by omega),zaa⟩
 case round=>
  obtain ⟨i,rfl,hi,hok,hx0⟩:=hrel
  have HO:=zc hok
  clear hok
  by_cases hin:i < n
  ·have hlt : decide ((i : Int) < (n : Int)) = true := by simp; omega
   have hlt':(i:Int) < (n:Int):=by omega
   have hpn:decide ((0:Int) < (n:Int))=true:=by have:=HN6.out; simp; omega
   have hpn':(0:Int) < (n:Int):=by have:=HN6.out; omega
   have hadd:IntKind.i64.wrap ((i:Int)+1)=((i+1:Nat):Int):=by have:=HN6.out; rw [zx]; omega
   obtain ⟨r,hr⟩:∃ r,rows[i]?=some r:=⟨rows[i]'(by rw [HL.out]; exact hin),zg _⟩
   obtain ⟨r0,hr0⟩:∃ r0,rows[0]?=some r0:=⟨rows[0]'(by rw [HL.out]; exact HN6.out.1),zg _⟩
   obtain ⟨ad,B,k,d,rfl,k3,hk,hB⟩:=HC.out i r hr wr hx0
   obtain ⟨ad0,B0,k0,d0,e0,k30,hk0,hB0⟩:=HC.out 0 r0 hr0 wr hx0
   obtain rfl:ad=ad0:=zl e0
   rw [zrg] at k30
   have hk0f:k0=f:=by
    rw [<- hk0,<- HF.out]
    cases hrs:rows with
    | nil=>rw [hrs] at hr0; simp at hr0
    | cons a l=>rw [hrs] at hr0; simp at hr0; rw [hr0]; rfl
   subst hk0f
   have HXX:=zc (show (rows.map (rowE k0))[i]?=some (rowE k0 r) by rw [zy1,hr]; rfl)
   have hkl:k < 2 ^ 63:=by rw [<- hk]; exact HR.out r (zk hr)
   have hm:∀ x ∈ r,x.length < 2 ^ 63:=HX.out r (zk hr)
   have HK:Hid (∀ w',Nxt wr w' -> Calls _ _ _ w' _):=zc (fun w' hn=>zrS (c:=d) (SAt.nxt hB hn) hk hkl hm)
   obtain ⟨E,hE⟩:∃ E,rowE k0 r=E:=⟨_,rfl⟩
   have HE:=zc hE
   rw [hE] at HXX
   have HKK:=zc hk
   clear hr hr0 hk0 hm hE hB hB0 hk
   by_cases c0:k=0
   ·have y0 : ((k : Int) == 0) = true := by simp; omega
    have HZ:=zc (show E=12 by rw [<- HE.out]; unfold rowE cntE; rw [HKK.out,if_pos c0]; rfl)
    clear c0
    go_wp2_with fail
    go_ret
    exact ⟨by rw [HV.out,zcK HO.out HXX.out (by rw [HZ.out]; decide),HZ.out]; rfl,zaa⟩
   have y0:((k:Int) == 0)=false:=by simp; omega
   by_cases c1:64 < k
   ·have y1 : decide ((64 : Int) < (k : Int)) = true := by simp; omega
    have y1':(64:Int) < (k:Int):=by omega
    have HZ:=zc (show E=5 by rw [<- HE.out]; unfold rowE cntE; rw [HKK.out,if_neg c0,if_pos c1]; rfl)
    clear c0 c1
    go_wp2_with fail
    go_ret
    exact ⟨by rw [HV.out,zcK HO.out HXX.out (by rw [HZ.out]; decide),HZ.out]; rfl,zaa⟩
   have y1:decide ((64:Int) < (k:Int))=false:=by simp; omega
   have y1':¬ (64:Int) < (k:Int):=by omega
   by_cases c2:k=k0
   ·have y2 : ((k : Int) != (k0 : Int)) = false := by simp; omega
    have HZ:=zc (show zay (r.map readE)=E by rw [<- HE.out]; unfold rowE cntE; rw [HKK.out,if_neg c0,if_neg c1]; show _=if k ≠ k0 then _ else _; rw [if_neg (by omega)])
    rw [HZ.out] at HK
    clear c0 c1 c2
    go_wp2_with fail
    go_quiet (fail)
    go_wp2_with fail
    refine zf (HK.out _ zaa) ?_
    rintro e w1 ⟨rfl,hx1⟩
    by_cases hz:E=0
    ·subst hz
     go_wp2_with fail
     go_roundw
     case rel=>exact ⟨i+1,rfl,hin,fun j y hj hy=>by
      rcases Nat.lt_or_ge j i with h | h
      ·exact HO.out j y h hy
      ·obtain rfl : j = i := by omega
       rw [HXX.out] at hy; exact (zl hy).symm,zaa⟩
     case measure=>simp [intOf]; omega
    ·have hnx : (E != 0) = true := by simpa using hz
     go_wp2_with fail
     go_ret
     exact ⟨by rw [HV.out,zcK HO.out HXX.out hz]; rfl,zaa⟩
   ·have y2 : ((k : Int) != (k0 : Int)) = true := by simp; omega
    have HZ:=zc (show E=2 by rw [<- HE.out]; unfold rowE cntE; rw [HKK.out,if_neg c0,if_neg c1]; show (if k ≠ k0 then _ else _)=_; rw [if_pos c2])
    clear c0 c1 c2
    go_wp2_with fail
    go_quiet (fail)
    go_wp2_with fail
    go_ret
    exact ⟨by rw [HV.out,zcK HO.out HXX.out (by rw [HZ.out]; decide),HZ.out]; rfl,zaa⟩
  ·have hlt : decide ((i : Int) < (n : Int)) = false := by simp; omega
   have hlt':¬ (i:Int) < (n:Int):=by omega
   go_wp2_with fail
   go_ret
   exact ⟨by rw [HV.out,zcd (fun e he=>by
    obtain ⟨j,hj,rfl⟩:=List.getElem_of_mem he
    exact HO.out j _ (by have:=HL.out; simp at hj; omega) (zg hj))]; rfl,zaa⟩
def dotL (P Q:List Rat):Nat -> Rat
 | 0=>0
 | k+1=>dotL P Q k+P.getD k 0 * Q.getD k 0
theorem zsL {P Q:List Rat} {a b:Nat} (hP:∀ q ∈ P,Sz q a) (hQ:∀ q ∈ Q,Sz q b):∀ k,k <= P.length -> k <= Q.length -> Sz (dotL P Q k) (k * (a+b+1)+2)
 | 0,_,_=>ziL
 | k+1,h1,h2=>by
  have ih:=zsL hP hQ k (by omega) (by omega)
  have i1:Sz (P.getD k 0) a:=by
   rw [zy0,zg (by omega)]; exact hP _ (List.getElem_mem _)
  have i2:Sz (Q.getD k 0) b:=by
   rw [zy0,zg (by omega)]; exact hQ _ (List.getElem_mem _)
  have e:(k+1) * (a+b+1)+2=k * (a+b+1)+2+(a+b)+1:=by rw [Nat.add_mul,Nat.one_mul]; omega
  rw [e]
  exact (za:Sz (dotL P Q k+P.getD k 0 * Q.getD k 0) (k * (a+b+1)+2+(a+b)+1))
theorem zrE {B:Option Addr} {e:Nat} {P Q:List Rat} {a b:Nat} (h1:SAt w A (P.map zad)) (h2:SAt w B (Q.map zad)) (l1:P.length=n) (l2:Q.length=n) (hn:n < 2 ^ 30) (hP:∀ q ∈ P,Sz q a) (hQ:∀ q ∈ Q,Sz q b) (hb:n * (a+b+1)+2 <= 2 ^ 15) (ha:a <= 2 ^ 15) (hbb:b <= 2 ^ 15) (hab:a+b <= 2 ^ 15):
  Calls Tryz.prog 53 #[.slice A n c,.slice B n e] w (PRet w (str (zad (dotL P Q n)))):=by
 have hc1:∀ (i:Nat) (q:Rat),P[i]?=some q -> ∀ w',Nxt w w' -> ∃ ad,A=some ad/\CellAt w' (ad.add i) (str (zad q)):=fun i q hq w' hn=>by
  obtain ⟨ad,h3,h4⟩:=(SAt.nxt h1 hn) i (zad q) (by rw [zy1,hq]; rfl)
  exact ⟨ad,h3,⟨h4⟩⟩
 have hc2:∀ (i:Nat) (q:Rat),Q[i]?=some q -> ∀ w',Nxt w w' -> ∃ ad,B=some ad/\CellAt w' (ad.add i) (str (zad q)):=fun i q hq w' hn=>by
  obtain ⟨ad,h3,h4⟩:=(SAt.nxt h2 hn) i (zad q) (by rw [zy1,hq]; rfl)
  exact ⟨ad,h3,⟨h4⟩⟩
 have HC1:=zc hc1; have HC2:=zc hc2; have L1:=zc l1; have L2:=zc l2; have HN:=zc hn; have HP:=zc hP; have HQ:=zc hQ
 have HB:=zc (show n * (a+b+1)+2 <= 2 ^ 15/\a <= 2 ^ 15/\b <= 2 ^ 15/\a+b <= 2 ^ 15 from ⟨hb,ha,hbb,hab⟩)
 clear h1 h2 hc1 hc2 l1 l2 hn hP hQ hb ha hbb hab
 go_enter Tryz.func53,Tryz.ntmps53
 go_wp2_with fail
 go_loopw [5,6] (fun s5 s6 wr=>∃ i:Nat,s6 = .int .i64 (i:Int)/\s5=str (zad (dotL P Q i))/\i <= n/\Nxt w wr) (fun _ s6 _=>n - (intOf s6).toNat)
 case atStart=>exact ⟨0,rfl,(by show _=str (zad 0); rw [show zad 0=[48] by decide +kernel]),Nat.zero_le _,zaa⟩
 case round=>
  obtain ⟨i,rfl,rfl,hi,hx0⟩:=hrel
  by_cases hin:i < n
  ·have hlt : decide ((i : Int) < (n : Int)) = true := by simp; omega
   have hlt':(i:Int) < (n:Int):=by omega
   have hadd:IntKind.i64.wrap ((i:Int)+1)=((i+1:Nat):Int):=by have:=HN.out; rw [zx]; omega
   obtain ⟨p,hp⟩:∃ p,P[i]?=some p:=⟨P[i]'(by rw [L1.out]; exact hin),zg _⟩
   obtain ⟨q,hq⟩:∃ q,Q[i]?=some q:=⟨Q[i]'(by rw [L2.out]; exact hin),zg _⟩
   obtain ⟨ad1,rfl,k1⟩:=HC1.out i p hp wr hx0
   obtain ⟨ad2,rfl,k2⟩:=HC2.out i q hq wr hx0
   have s1:Sz p a:=HP.out p (zk hp)
   have s2:Sz q b:=HQ.out q (zk hq)
   have s3:Sz (dotL P Q i) (i * (a+b+1)+2):=zsL HP.out HQ.out i (by rw [L1.out]; omega) (by rw [L2.out]; omega)
   have hmono:i * (a+b+1) <= n * (a+b+1):=Nat.mul_le_mul_right _ hi
   have HM:=zc hmono
   have HE:=zc (show dotL P Q (i+1)=dotL P Q i+p * q by show dotL P Q i+P.getD i 0 * Q.getD i 0=_; rw [za3 hp,za3 hq])
   obtain ⟨s,hs⟩:∃ s,dotL P Q i=s:=⟨_,rfl⟩
   rw [hs] at s3 HE
   rw [hs]
   obtain ⟨z,hz⟩:∃ z,i * (a+b+1)+2=z:=⟨_,rfl⟩
   rw [hz] at s3
   have HZ:=zc hz
   clear hp hq hmono hs hz
   go_wp2_with fail
   (refine Code.nameW ?_; intro W hW; go_region_held3 (fun w'=>ButO W [] w') (exact zab) (((first | (go_at_call 52; refine zf (zoh (by have:=HB.out; omega) (by have:=HB.out; omega)) ?_; rintro e w1 ⟨rfl,_⟩) | (go_at_call 51; refine zf (zn9 (by have:=HB.out; have:=HM.out; have:=HZ.out; omega) (by have:=HB.out; omega)) ?_; rintro e w1 ⟨rfl,_⟩)))))
   go_wp2_with fail
   go_roundw
   case rel=>exact ⟨i+1,rfl,by rw [HE.out],hin,zaa⟩
   case measure=>simp [intOf]; omega
  ·have hlt : decide ((i : Int) < (n : Int)) = false := by simp; omega
   have hlt':¬ (i:Int) < (n:Int):=by omega
   obtain rfl:i=n:=by omega
   go_wp2_with fail
   go_ret
   exact ⟨rfl,zaa⟩
end
section
variable {A:Option Addr} {c n:Nat} {w:World}
def fewLB (L:List (List UInt8)) (m d:Nat):Bool:=decide (L.length <= m) && L.all fun x=>decide (fewP x d)
theorem zrY {L:List (List UInt8)} {m d:Nat} (hs:SAt w A L) (hl:L.length=n) (hn:n < 2 ^ 63) (hd:d <= 1000):
  Calls Tryz.prog 49 #[.slice A n c,.int .i64 (m:Int),.int .i64 (d:Int)] w (PRet w (.bool (fewLB L m d))):=by
 have hc:∀ (i:Nat) (x:List UInt8),L[i]?=some x -> ∀ w',Nxt w w' -> ∃ ad,A=some ad/\w'.cell? (ad.add i)=some (str x):=fun i x hx w' hn=>(SAt.nxt hs hn) i x hx
 have HC:=zc hc; have HN:=zc hn; have HL:=zc hl
 clear hc hn hl hs
 have HD:=zc hd
 clear hd
 by_cases hm:n <= m
 ·have hgt : decide ((m : Int) < (n : Int)) = false := by simp; omega
  have hgt':¬ (m:Int) < (n:Int):=by omega
  have HM:=zc hm
  clear hm
  go_enter Tryz.func49,Tryz.ntmps49
  go_wp2_with fail
  go_loopw [7] (fun s7 wr=>∃ i:Nat,s7 = .int .i64 (i:Int)/\i <= n/\(∀ (j:Nat) (y:List UInt8),j < i -> L[j]?=some y -> fewP y d)/\Nxt w wr) (fun s7 _=>n - (intOf s7).toNat)
  case atStart=>exact ⟨0,rfl,Nat.zero_le _,fun _ _ h=>absurd h (by omega),zaa⟩
  case round=>
   obtain ⟨i,rfl,hi,hok,hx0⟩:=hrel
   have HO:=zc hok
   clear hok
   by_cases hin:i < n
   ·have hlt : decide ((i : Int) < (n : Int)) = true := by simp; omega
    have hlt':(i:Int) < (n:Int):=by omega
    have hadd:IntKind.i64.wrap ((i:Int)+1)=((i+1:Nat):Int):=by have:=HN.out; rw [zx]; omega
    obtain ⟨x,hx⟩:∃ x,L[i]?=some x:=⟨L[i]'(by rw [HL.out]; exact hin),zg _⟩
    obtain ⟨ad,rfl,k3⟩:=HC.out i x hx wr hx0
    have HX:=zc hx
    have HK:Hid (∀ w,Calls _ _ _ w _):=zc (fun w=>zoB (l:=x) (d:=d) (w:=w) HD.out)
    clear hx
    by_cases hz:fewP x d
    ·have hdz : decide (fewP x d) = true := by simpa using hz
     rw [hdz] at HK
     have HZ:=zc hz
     clear hz hdz
     go_wp2_with fail
     refine zf (HK.out _) ?_
     rintro e w1 ⟨rfl,hx1⟩
     go_wp2_with fail
     go_roundw
     case rel=>exact ⟨i+1,rfl,hin,fun j y hj hy=>by
      rcases Nat.lt_or_ge j i with h | h
      ·exact HO.out j y h hy
      ·obtain rfl : j = i := by omega
       rw [HX.out] at hy; rw [<- zl hy]; exact HZ.out,zaa⟩
     case measure=>simp [intOf]; omega
    ·have hdz : decide (fewP x d) = false := by simpa using hz
     rw [hdz] at HK
     have HZ:=zc hz
     clear hz hdz
     go_wp2_with fail
     refine zf (HK.out _) ?_
     rintro e w1 ⟨rfl,hx1⟩
     go_wp2_with fail
     go_ret
     exact ⟨by rw [show fewLB L m d=false by
      unfold fewLB
      rw [Bool.and_eq_false_iff]
      right
      rw [List.all_eq_false]
      exact ⟨x,zk HX.out,by simpa using HZ.out⟩]; rfl,zaa⟩
   ·have hlt : decide ((i : Int) < (n : Int)) = false := by simp; omega
    have hlt':¬ (i:Int) < (n:Int):=by omega
    go_wp2_with fail
    go_ret
    exact ⟨by rw [show fewLB L m d=true by
     unfold fewLB
     rw [Bool.and_eq_true]
     refine ⟨by have:=HM.out; have:=HL.out; simp; omega,List.all_eq_true.2 fun x hx=>?_⟩
     obtain ⟨j,hj⟩:=List.mem_iff_getElem?.1 hx
     have:=(zh.1 hj).1
     simpa using HO.out j x (by have:=HL.out; omega) hj]; rfl,zaa⟩
 ·have hgt : decide ((m : Int) < (n : Int)) = true := by simp; omega
  have hgt':(m:Int) < (n:Int):=by omega
  have HV:=zc (show fewLB L m d=false by
   unfold fewLB
   rw [Bool.and_eq_false_iff]
   left
   have:=HL.out
   simp; omega)
  clear hm
  go_enter Tryz.func49,Tryz.ntmps49
  go_wp2_with fail
  go_ret
  exact ⟨by rw [HV.out]; rfl,zaa⟩
def fewMB (rows:List (List (List UInt8))) (r m d:Nat):Bool:=decide (rows.length <= r) && rows.all fun row=>decide (row.length=(rows.headD []).length) && fewLB row m d
theorem zsd {rows:List (List (List UInt8))} {p m d:Nat} (hm:MAt w A rows) (hl:rows.length=n) (hn:n < 2 ^ 63) (hr:∀ r ∈ rows,r.length < 2 ^ 63) (hd:d <= 1000):
  Calls Tryz.prog 48 #[.slice A n c,.int .i64 (p:Int),.int .i64 (m:Int),.int .i64 (d:Int)] w (PRet w (.bool (fewMB rows p m d))):=by
 have hc:∀ (i:Nat) (r:List (List UInt8)),rows[i]?=some r -> ∀ w',Nxt w w' -> ∃ ad B k d,A=some ad/\CellAt w' (ad.add i) (.slice B k d)/\r.length=k/\SAt w' B r:=fun i r hr w' hn=>by
  obtain ⟨ad,B,k,d,h1,h2,h3,h4⟩:=(MAt.nxt hm hn) i r hr
  exact ⟨ad,B,k,d,h1,⟨h2⟩,h3,h4⟩
 have HC:=zc hc; have HN:=zc hn; have HL:=zc hl
 clear hc hn hl hm
 have HR:=zc hr; have HD:=zc hd
 clear hr hd
 by_cases hp:n <= p
 ·have hgt : decide ((p : Int) < (n : Int)) = false := by simp; omega
  have hgt':¬ (p:Int) < (n:Int):=by omega
  have HP:=zc hp
  obtain ⟨f,hf⟩:∃ f,(rows.headD []).length=f:=⟨_,rfl⟩
  have HF:=zc hf
  clear hp hf
  go_enter Tryz.func48,Tryz.ntmps48
  go_wp2_with fail
  go_loopw [9] (fun s9 wr=>∃ i:Nat,s9 = .int .i64 (i:Int)/\i <= n/\(∀ (j:Nat) (y:List (List UInt8)),j < i -> rows[j]?=some y -> y.length=f/\fewLB y m d=true)/\Nxt w wr) (fun s9 _=>n - (intOf s9).toNat)
  case atStart=>exact ⟨0,rfl,Nat.zero_le _,fun _ _ h=>absurd h (by omega),zaa⟩
  case round=>
   obtain ⟨i,rfl,hi,hok,hx0⟩:=hrel
   have HO:=zc hok
   clear hok
   by_cases hin:i < n
   ·have hlt : decide ((i : Int) < (n : Int)) = true := by simp; omega
    have hlt':(i:Int) < (n:Int):=by omega
    have hpn:decide ((0:Int) < (n:Int))=true:=by simp; omega
    have hpn':(0:Int) < (n:Int):=by omega
    have hpn2:0 < n:=by omega
    have hpn3:decide (0 < n)=true:=by simp; omega
    have hadd:IntKind.i64.wrap ((i:Int)+1)=((i+1:Nat):Int):=by have:=HN.out; rw [zx]; omega
    obtain ⟨r,hr⟩:∃ r,rows[i]?=some r:=⟨rows[i]'(by rw [HL.out]; exact hin),zg _⟩
    obtain ⟨r0,hr0⟩:∃ r0,rows[0]?=some r0:=⟨rows[0]'(by rw [HL.out]; omega),zg _⟩
    obtain ⟨ad,B,k,e,rfl,k3,hk,hB⟩:=HC.out i r hr wr hx0
    obtain ⟨ad0,B0,k0,d0,e0,k30,hk0,hB0⟩:=HC.out 0 r0 hr0 wr hx0
    obtain rfl:ad=ad0:=zl e0
    rw [zrg] at k30
    have hk0f:k0=f:=by
     rw [<- hk0,<- HF.out]
     cases hrs:rows with
     | nil=>rw [hrs] at hr0; simp at hr0
     | cons a l=>rw [hrs] at hr0; simp at hr0; rw [hr0]; rfl
    subst hk0f
    have HX:=zc hr; have HKK:=zc hk
    have hkl:k < 2 ^ 63:=by rw [<- hk]; exact HR.out r (zk hr)
    have HK:Hid (∀ w',Nxt wr w' -> Calls _ _ _ w' _):=zc (fun w' hn=>zrY (c:=e) (m:=m) (d:=d) (SAt.nxt hB hn) hk hkl HD.out)
    have hbad:¬ (k=k0/\fewLB r m d=true) -> fewMB rows p m d=false:=fun h=>by
     unfold fewMB
     rw [Bool.and_eq_false_iff]
     right
     rw [List.all_eq_false]
     exact ⟨r,zk HX.out,by rw [HF.out,HKK.out]; simpa using h⟩
    have HBD:=zc hbad
    clear hr hr0 hk0 hB hB0 hk hkl hbad
    by_cases c2:k=k0
    ·have y2 : ((k : Int) != (k0 : Int)) = false := by simp; omega
     obtain ⟨F,hF⟩:∃ F,fewLB r m d=F:=⟨_,rfl⟩
     rw [hF] at HK HBD
     have HFF:=zc hF; have HC2:=zc c2
     clear c2 hF
     go_wp2_with fail
     (refine Code.nameW ?_; intro W hW; go_region_held3 (fun w'=>ButO W [] w') (exact zab) ((go_at_call 49; refine zf (HK.out _ zaa) ?_; rintro e w1 ⟨rfl,_⟩)))
     cases F
     ·go_wp2_with fail
      go_ret
      exact ⟨by rw [HBD.out (by simp)]; rfl,zaa⟩
     ·go_wp2_with fail
      go_roundw
      case rel=>exact ⟨i+1,rfl,hin,fun j y hj hy=>by
       rcases Nat.lt_or_ge j i with h | h
       ·exact HO.out j y h hy
       ·obtain rfl : j = i := by omega
        rw [HX.out] at hy; rw [<- zl hy]; exact ⟨HKK.out.trans HC2.out,HFF.out⟩,zaa⟩
      case measure=>simp [intOf]; omega
    ·have y2 : ((k : Int) != (k0 : Int)) = true := by simp; omega
     have HZ:=zc (HBD.out (fun h=>c2 h.1))
     clear c2
     go_wp2_with fail
     go_quiet (fail)
     go_wp2_with fail
     go_ret
     exact ⟨by rw [HZ.out]; rfl,zaa⟩
   ·have hlt : decide ((i : Int) < (n : Int)) = false := by simp; omega
    have hlt':¬ (i:Int) < (n:Int):=by omega
    go_wp2_with fail
    go_ret
    exact ⟨by rw [show fewMB rows p m d=true by
     unfold fewMB
     rw [Bool.and_eq_true]
     refine ⟨by have:=HP.out; have:=HL.out; simp; omega,List.all_eq_true.2 fun x hx=>?_⟩
     obtain ⟨j,hj⟩:=List.mem_iff_getElem?.1 hx
     have:=(zh.1 hj).1
     obtain ⟨a,b⟩:=HO.out j x (by have:=HL.out; omega) hj
     rw [HF.out,a,b]; simp]; rfl,zaa⟩
 ·have hgt : decide ((p : Int) < (n : Int)) = true := by simp; omega
  have hgt':(p:Int) < (n:Int):=by omega
  have HV:=zc (show fewMB rows p m d=false by
   unfold fewMB
   rw [Bool.and_eq_false_iff]
   left
   have:=HL.out
   simp; omega)
  clear hp
  go_enter Tryz.func48,Tryz.ntmps48
  go_wp2_with fail
  go_ret
  exact ⟨by rw [HV.out]; rfl,zaa⟩
end
def qM (rows:List (List (List UInt8))):List (List Rat):=rows.map fun r=>r.map readQ
theorem ztc {rows:List (List (List UInt8))} {n:Nat} (h:∀ r ∈ rows,r.length=n):∀ r ∈ qM rows,r.length=n:=fun r hr=>by
 obtain ⟨x,hx,rfl⟩:=List.mem_map.1 hr
 rw [List.length_map]; exact h x hx
theorem zr9 {rows:List (List (List UInt8))}:(qM rows).length=rows.length:=List.length_map ..
theorem zsm (rows:List (List (List UInt8))):zbg rows=(qM rows).map zb8:=by
 unfold zbg qM; rw [List.map_map]; rfl
theorem ztb {rows:List (List (List UInt8))} {i:Nat} {r:List (List UInt8)} (h:rows[i]?=some r):(qM rows).getD i []=r.map readQ:=za3 (by unfold qM; rw [zy1,h]; rfl)
theorem zsp {rows:List (List (List UInt8))} {m:Nat} (hm:∀ r ∈ rows,r.length=m) (he:(rows.headD []).length=m):RkIs m rows.length (qR (qM rows)) (rankZ rows):=by
 have h:=zsS (ztc hm)
 rw [zr9] at h
 unfold rankZ
 rw [he,zsm]; exact h
theorem zrn (P Q:List Rat):∀ k,dotL P Q k=rsum k (fun i=>P.getD i 0 * Q.getD i 0)
 | 0=>rfl
 | k+1=>by unfold dotL rsum; rw [zrn P Q k]
def colT (xs:List (List UInt8)):List (List (List UInt8)):=xs.map fun x=>[x]
theorem ztn {q:Rat} {N D:Nat} (h:Bn q N D) (hN:N < 10 ^ 600) (hD:D < 10 ^ 600):Fits q:=by
 constructor
 ·rw [Lib.decDigits_length]; exact zdk (by omega) (Nat.lt_of_le_of_lt h.num hN)
 ·rw [Lib.decDigits_length]; exact zdk (by omega) (Nat.lt_of_le_of_lt h.den hD)
theorem sz_bn {q:Rat} {N D k:Nat} (h:Bn q N D) (hN:N < B64 ^ k) (hD:D < B64 ^ k):Sz q k:=⟨zaf (Nat.lt_of_le_of_lt h.num hN),zaf (Nat.lt_of_le_of_lt h.den hD)⟩
theorem ztd {x:List UInt8} (h:fewP x 4):Bn (readQ x) (2 ^ 16) (2 ^ 16):=by
 obtain ⟨_,_,h1,h2⟩:=h
 have a:=zn8 (readQ x).num.natAbs
 have b:=zn8 (readQ x).den
 exact ⟨Nat.le_of_lt (Nat.lt_of_lt_of_le (zfB _) (Nat.pow_le_pow_right (by omega) (by omega))),Nat.le_of_lt (Nat.lt_of_lt_of_le (zfB _) (Nat.pow_le_pow_right (by omega) (by omega)))⟩
theorem zrM {rows:List (List (List UInt8))} {p m d:Nat} (h:fewMB rows p m d=true):rows.length <= p/\∀ r ∈ rows,r.length <= m/\∀ x ∈ r,fewP x d:=by
 unfold fewMB at h
 rw [Bool.and_eq_true] at h
 refine ⟨of_decide_eq_true h.1,fun r hr=>?_⟩
 have h2:=List.all_eq_true.1 h.2 r hr
 rw [Bool.and_eq_true] at h2
 have h3:=h2.2
 unfold fewLB at h3
 rw [Bool.and_eq_true] at h3
 exact ⟨of_decide_eq_true h3.1,fun x hx=>of_decide_eq_true (List.all_eq_true.1 h3.2 x hx)⟩
theorem zr2 {L:List (List UInt8)} {m d:Nat} (h:fewLB L m d=true):L.length <= m/\∀ x ∈ L,fewP x d:=by
 unfold fewLB at h
 rw [Bool.and_eq_true] at h
 exact ⟨of_decide_eq_true h.1,fun x hx=>of_decide_eq_true (List.all_eq_true.1 h.2 x hx)⟩
theorem ztm {rows:List (List (List UInt8))} {m:Nat} (h:MOk rows m):matE rows=0:=by
 have e:(rows.headD []).length=m:=by
  cases hr:rows with
  | nil=>have:=h.pos; rw [hr] at this; simp at this
  | cons a l=>exact h.cols a (by rw [hr]; exact List.mem_cons_self ..)
 unfold matE
 have c0:cntE rows.length=0:=by have:=h.pos; have:=h.le; unfold cntE; rw [if_neg (by omega),if_neg (by omega)]
 rw [if_neg (fun h2=>h2 c0),e]
 refine zcd fun x hx=>?_
 obtain ⟨r,hr,rfl⟩:=List.mem_map.1 hx
 unfold rowE
 have c1:cntE r.length=0:=by have:=h.cols r hr; have:=h.mpos; have:=h.mle; unfold cntE; rw [if_neg (by omega),if_neg (by omega)]
 rw [if_neg (fun h2=>h2 c1),if_neg (fun h2=>h2 (h.cols r hr))]
 refine zcd fun y hy=>?_
 obtain ⟨x,hx,rfl⟩:=List.mem_map.1 hy
 exact h.ok r hr x hx
def texM (F:Nat -> Nat -> Rat) (n m:Nat):List (List (List UInt8)):=(List.range n).map (trow F m)
theorem zro {F:Nat -> Nat -> Rat} {n m i:Nat} (h:i < n):(texM F n m)[i]?=some (trow F m i):=by unfold texM; rw [zy1,List.getElem?_range h]; rfl
theorem zri {F:Nat -> Nat -> Rat} {m i:Nat}:(trow F m i).length=m:=by simp [trow]
theorem zsg {F:Nat -> Nat -> Rat} {m i j:Nat} (h:j < m):(trow F m i)[j]?=some (zad (F i j)):=by unfold trow; rw [zy1,List.getElem?_range h]; rfl
theorem ztf {q:Rat} (h:Fits q):(zad q).length < 2 ^ 40:=by
 unfold zad itoaZ
 have h1:=h.1
 have h2:=h.2
 split
 ·split <;> simp <;> omega
 ·split <;> simp <;> omega
theorem zrJ {w:World} {base n sz g:Nat} {t u:TypeId} {v:Value} {l:List Value} {vs:Array Value} (h:w.ownsRow base t sz v n l) (hb:Blk w g u vs) (ht:t ≠ u):v.ownBlock ≠ some g:=by
 obtain ⟨_,⟨rfl,_⟩ | ⟨g',cap,cur,rfl,_,hg,_⟩⟩:=h
 ·intro e; cases e
 ·intro e
  obtain rfl:g'=g:=by simpa [Value.ownBlock] using e
  have:=hg.symm.trans hb.out
  injection this with this
  injection this with _ this
  exact ht this
theorem zrO {w wr w':World} {base n sz:Nat} {t:TypeId} {v:Value} {l:List Value} (h:wr.ownsRow base t sz v n l) (hn:Nxt w wr) (hb:w.heap.size <= base) (hg:wr.grownBy w' v.ownBlock):Nxt w w':=
 ⟨⟨hg.os.trans hn.out.os, hg.tape.trans hn.out.tape, hg.output.trans hn.out.output, zo hn.out.size hg.size, fun g hlt =>
  (hg.block g (Nat.lt_of_lt_of_le hlt hn.out.size) (fun e=>by have:=(h.lt g e.symm).1; omega)).trans (hn.out.block g hlt)⟩⟩
theorem zrs {w w':World} {base n sz:Nat} {t:TypeId} {v:Value} {l:List Value} (h:w.ownsRow base t sz v n l) (hn:Nxt w w'):w'.ownsRow base t sz v n l:=by
 obtain ⟨h1,h2 | ⟨g,cap,cur,hv,hb,hh,hr⟩⟩:=h
 ·exact ⟨h1,Or.inl h2⟩
 ·refine ⟨h1, Or.inr ⟨g, cap, cur, hv, hb, ?_, hr⟩⟩
  have:g < w.heap.size:=by
   rcases Nat.lt_or_ge g w.heap.size with h | h
   ·exact h
   ·rw [Array.getElem?_eq_none h] at hh; cases hh
  rw [hn.out.block g this]; exact hh
structure TxI (w wr:World) (v:Value) (ts:List (List UInt8)):Prop where
 own:wr.ownsRow w.heap.size 22 1 v ts.length (ts.map str)
 nxt:Nxt w wr
structure ColI (w wr:World) (v:Value) (gs:List Nat) (ys:List (List UInt8)):Prop where
 own:wr.ownsRow w.heap.size 59 1 v ys.length (gs.map fun g => .slice (some ⟨g,0,none⟩) 1 1)
 len:gs.length=ys.length
 at_:∀ (i g:Nat) (y:List UInt8),gs[i]?=some g -> ys[i]?=some y -> Blk wr g 22 #[str y]
 nxt:Nxt w wr
theorem ColI.nil {w:World}:ColI w w (.slice none 0 0) [] []:=⟨⟨rfl,.inl ⟨rfl,rfl⟩⟩,rfl,(fun i g y h=>by simp at h),zaa⟩
theorem TxI.nil {w:World}:TxI w w (.slice none 0 0) []:=⟨⟨rfl,.inl ⟨rfl,rfl⟩⟩,zaa⟩
theorem TxI.nil_ {w wr:World} (h:Nxt w wr):TxI w wr (.slice none 0 0) []:=⟨⟨rfl,.inl ⟨rfl,rfl⟩⟩,h⟩
theorem ColI.step {w wr W w':World} {v v':Value} {gs:List Nat} {ys:List (List UInt8)} {y:List UInt8} {g:Nat} (h:ColI w wr v gs ys) (hW:Nxt wr W) (hy:Blk W g 22 #[str y])
  (ho:w'.ownsRow w.heap.size 59 1 v' (ys.length+1) (gs.map (fun g=>Value.slice (some ⟨g,0,none⟩) 1 1) ++ [.slice (some ⟨g,0,none⟩) 1 1])) (hg:W.grownBy w' v.ownBlock):ColI w w' v' (gs ++ [g]) (ys ++ [y]):=by
 have howW:=zrs h.own hW
 have hnW:Nxt w W:=⟨h.nxt.out.trans (hW.out.mono h.nxt.out.size)⟩
 have hblk:∀ {b:Nat} {vs:Array Value},Blk W b 22 vs -> Blk w' b 22 vs:=fun {b vs} hb=>⟨(hg.block b hb.lt (fun e=>zrJ howW hb (by decide) e.symm)).trans hb.out⟩
 refine ⟨by rw [List.length_append,List.map_append]; exact ho,by rw [List.length_append,List.length_append,h.len]; rfl,fun i g' y' h1 h2=>?_,zrO howW hnW (zv _) hg⟩
 by_cases hi:i < gs.length
 ·rw [List.getElem?_append_left hi] at h1
  rw [List.getElem?_append_left (by rw [<- h.len]; exact hi)] at h2
  exact hblk (Blk.nxt (h:=hW) (k:=h.at_ i g' y' h1 h2))
 ·have hi2:i=gs.length:=by
   have:=(zh.1 h1).1
   rw [List.length_append,List.length_singleton] at this; omega
  subst hi2
  rw [List.getElem?_append_right (zv _)] at h1
  rw [h.len,List.getElem?_append_right (zv _)] at h2
  simp at h1 h2
  subst h1; subst h2
  exact hblk hy
theorem TxI.step {w wr W w':World} {v v':Value} {ts:List (List UInt8)} {y:List UInt8} (h:TxI w wr v ts) (hW:Nxt wr W) (ho:w'.ownsRow w.heap.size 22 1 v' (ts.length+1) (ts.map str ++ [str y])) (hg:W.grownBy w' v.ownBlock):TxI w w' v' (ts ++ [y]):=by
 have howW:=zrs h.own hW
 have hnW:Nxt w W:=⟨h.nxt.out.trans (hW.out.mono h.nxt.out.size)⟩
 exact ⟨by rw [List.length_append,List.map_append]; exact ho,zrO howW hnW (zv _) hg⟩
theorem zsx {w:World} {g:Nat} {y:List UInt8} (h:Blk w g 22 #[str y]):SAt w (some ⟨g,0,none⟩) [y]:=fun i x hx=>by
 cases i with
 | zero=>
  obtain rfl:y=x:=by simpa using hx
  exact ⟨_,rfl,by rw [zrg]; exact (Blk.cell (k:=h) (i:=0)).trans rfl⟩
 | succ i=>simp at hx
theorem ColI.mat {w wr:World} {v:Value} {gs:List Nat} {ys:List (List UInt8)} (h:ColI w wr v gs ys):∃ A c,v = .slice A ys.length c/\MAt wr A (colT ys):=by
 obtain ⟨hl,⟨hv,hn⟩ | ⟨g,cap,cur,hv,_,hg,_,_,_,ht⟩⟩:=h.own
 ·refine ⟨none, 0, by rw [hv, hn], fun i r hr => ?_⟩
  have:=List.eq_nil_of_length_eq_zero hn
  rw [this] at hr; simp [colT] at hr
 ·refine ⟨_, cap, hv, fun i r hr => ?_⟩
  obtain ⟨y,hy,rfl⟩:∃ y,ys[i]?=some y/\[y]=r:=by
   unfold colT at hr
   rw [zy1] at hr
   cases hy:ys[i]? with
   | none=>rw [hy] at hr; cases hr
   | some y=>rw [hy] at hr; exact ⟨y,rfl,zl hr⟩
  have hiy:=(zh.1 hy).1
  obtain ⟨gi,hgi⟩:∃ gi,gs[i]?=some gi:=⟨gs[i]'(by rw [h.len]; exact hiy),zg _⟩
  refine ⟨_,some ⟨gi,0,none⟩,1,1,rfl,?_,rfl,zsx (h.at_ i gi y hgi hy)⟩
  have e:(⟨g,0,none⟩:Addr).add i=⟨g,i,none⟩:=by unfold Addr.add; split <;> simp_all
  rw [e]
  have hb:Blk wr g 59 cur:=⟨hg⟩
  refine (Blk.cell (k:=hb) (i:=i)).trans ?_
  have h2:(gs.map fun g=>Value.slice (some ⟨g,0,none⟩) 1 1)[i]?=some (.slice (some ⟨gi,0,none⟩) 1 1):=by rw [zy1,hgi]; rfl
  rw [<- ht,List.getElem?_take] at h2
  split at h2
  ·rw [<- Array.getElem?_toList]; exact h2
  ·cases h2
theorem TxI.sat {w wr:World} {v:Value} {ts:List (List UInt8)} (h:TxI w wr v ts) (h0:ts ≠ []):∃ ad c,v = .slice (some ad) ts.length c/\SAt wr (some ad) ts:=by
 have h1:=RowT.of_own h.own h0
 obtain ⟨g,cap,cs,hv,hb,hc⟩:=h1
 rw [hv]
 exact ⟨_,cap,rfl,(RowT.sat (l:=ts) ⟨g,cap,cs,rfl,hb,hc⟩).2⟩
def trT (rm:List (List (List UInt8))) (k:Nat):List (List (List UInt8)):=(List.range k).map fun j=>rm.map fun r=>r.getD j []
theorem zrd {rm:List (List (List UInt8))} {k:Nat}:(trT rm k).length=k:=by simp [trT]
structure MatI (w wr:World) (v:Value) (vs:List Value) (rows:List (List (List UInt8))):Prop where
 own:wr.ownsRow w.heap.size 59 1 v rows.length vs
 len:vs.length=rows.length
 at_:∀ (i:Nat) (u:Value) (r:List (List UInt8)),vs[i]?=some u -> rows[i]?=some r -> RowT wr u r
 nxt:Nxt w wr
theorem MatI.nil {w:World}:MatI w w (.slice none 0 0) [] []:=⟨⟨rfl,.inl ⟨rfl,rfl⟩⟩,rfl,(fun i u r h=>by simp at h),zaa⟩
theorem MatI.nxt_ {w wr w':World} {v:Value} {vs:List Value} {rows:List (List (List UInt8))} (h:MatI w wr v vs rows) (hn:Nxt wr w'):MatI w w' v vs rows:=
 ⟨zrs h.own hn,h.len,fun i u r h1 h2=>(h.at_ i u r h1 h2).nxt hn,⟨h.nxt.out.trans (hn.out.mono h.nxt.out.size)⟩⟩
theorem MatI.step {w wr W w':World} {v v' u:Value} {vs:List Value} {rows:List (List (List UInt8))} {r:List (List UInt8)} (h:MatI w wr v vs rows) (hW:Nxt wr W) (hy:RowT W u r)
  (ho:w'.ownsRow w.heap.size 59 1 v' (rows.length+1) (vs ++ [u])) (hg:W.grownBy w' v.ownBlock):MatI w w' v' (vs ++ [u]) (rows ++ [r]):=by
 have howW:=zrs h.own hW
 have hnW:Nxt w W:=⟨h.nxt.out.trans (hW.out.mono h.nxt.out.size)⟩
 have hrow:∀ {b:Value} {l:List (List UInt8)},RowT W b l -> RowT w' b l:=fun {b l} hb=>by
  obtain ⟨g,cap,cs,hv,h1,h2⟩:=hb
  exact ⟨g,cap,cs,hv,⟨(hg.block g h1.lt (fun e=>zrJ howW h1 (by decide) e.symm)).trans h1.out⟩,h2⟩
 refine ⟨by rw [List.length_append]; exact ho,by rw [List.length_append,List.length_append,h.len]; rfl,fun i u' r' h1 h2=>?_,zrO howW hnW (zv _) hg⟩
 by_cases hi:i < vs.length
 ·rw [List.getElem?_append_left hi] at h1
  rw [List.getElem?_append_left (by rw [<- h.len]; exact hi)] at h2
  exact hrow ((h.at_ i u' r' h1 h2).nxt hW)
 ·have hi2:i=vs.length:=by
   have:=(zh.1 h1).1
   rw [List.length_append,List.length_singleton] at this; omega
  subst hi2
  rw [List.getElem?_append_right (zv _)] at h1
  rw [h.len,List.getElem?_append_right (zv _)] at h2
  simp at h1 h2
  subst h1; subst h2
  exact hrow hy
theorem MatI.mat {w wr:World} {v:Value} {vs:List Value} {rows:List (List (List UInt8))} (h:MatI w wr v vs rows):∃ A c,v = .slice A rows.length c/\MAt wr A rows:=by
 obtain ⟨hl,⟨hv,hn⟩ | ⟨g,cap,cur,hv,_,hg,_,_,_,ht⟩⟩:=h.own
 ·refine ⟨none, 0, by rw [hv, hn], fun i r hr => ?_⟩
  have:=List.eq_nil_of_length_eq_zero hn
  rw [this] at hr; simp at hr
 ·refine ⟨_, cap, hv, fun i r hr => ?_⟩
  have hir:=(zh.1 hr).1
  obtain ⟨u,hu⟩:∃ u,vs[i]?=some u:=⟨vs[i]'(by rw [h.len]; exact hir),zg _⟩
  have hR:=h.at_ i u r hu hr
  obtain ⟨g1,cap1,cs1,rfl,hb1,hc1⟩:=hR
  have hs:=(RowT.sat (w:=wr) (l:=r) (A:=some ⟨g1,0,none⟩) (k:=r.length) (c:=cap1) ⟨g1,cap1,cs1,rfl,hb1,hc1⟩).2
  refine ⟨_,some ⟨g1,0,none⟩,r.length,cap1,rfl,?_,rfl,hs⟩
  have e:(⟨g,0,none⟩:Addr).add i=⟨g,i,none⟩:=by unfold Addr.add; split <;> simp_all
  rw [e]
  have hb:Blk wr g 59 cur:=⟨hg⟩
  refine (Blk.cell (k:=hb) (i:=i)).trans ?_
  have h2:=hu
  rw [<- ht,List.getElem?_take] at h2
  split at h2
  ·rw [<- Array.getElem?_toList]; exact h2
  ·cases h2
section
variable {A:Option Addr} {n c k:Nat} {rm:List (List (List UInt8))} {w:World}
theorem zsR (hm:MAt w A rm) (hl:rm.length=n) (h0:0 < n) (hk:(rm.headD []).length=k):Calls Tryz.prog 125 #[.slice A n c] w (PRet w (.int .i64 (k:Int))):=by
 obtain ⟨ad,B,k1,d,rfl,hc,hk1,_⟩:=hm 0 (rm.headD []) (zeW (by omega))
 rw [zrg] at hc
 rw [hk] at hk1
 subst hk1
 have k3:CellAt w ad (.slice B k d):=⟨hc⟩
 have z0:((n:Int) == 0)=false:=by simp; omega
 have hpn:decide ((0:Int) < (n:Int))=true:=by simp; omega
 have hpn':(0:Int) < (n:Int):=by omega
 clear hm hl h0 hk hc
 go_enter Tryz.func125,Tryz.ntmps125
 go_wp2_with fail
 go_ret
 exact ⟨rfl,zaa⟩
theorem zr5 (hm:MAt w A rm) (hl:rm.length=n) (h0:0 < n) (hn:n <= 64) (hk:∀ r ∈ rm,r.length=k) (hk64:k <= 64):
  Calls Tryz.prog 50 #[.slice A n c] w (fun e w'=>∃ D d,e = .returned (.slice D k d)/\MAt w' D (trT rm k)/\Nxt w w'):=by
 obtain ⟨i0,hi0,hz0,hz1,hz2⟩:=info_parts zlg
 have HI0:=zc hi0; have HZ0:=zc hz0; have HZ1:=zc hz1; have HZ2:=zc hz2
 obtain ⟨j0,hj0,hy0,hy1,hy2⟩:=info_parts zfa
 have HJ0:=zc hj0; have HY0:=zc hy0; have HY1:=zc hy1; have HY2:=zc hy2
 have hhk:(rm.headD []).length=k:=by
  cases hrs:rm with
  | nil=>rw [hrs] at hl; simp at hl; omega
  | cons a l=>exact hk a (by rw [hrs]; exact List.mem_cons_self ..)
 have HWD:Hid (∀ w',Nxt w w' -> Calls _ _ _ w' _):=zc (fun w' h=>zsR (c:=c) (MAt.nxt hm h) hl h0 hhk)
 have HM:=zc hm; have HL:=zc hl; have HN:=zc (show 0 < n/\n <= 64/\k <= 64 from ⟨h0,hn,hk64⟩); have HK:=zc hk
 clear hm hl h0 hn hk hk64 hhk hi0 hz0 hz1 hz2 hj0 hy0 hy1 hy2
 go_enter Tryz.func50,Tryz.ntmps50
 go_wp2_with fail
 go_loopw [3,4,5,6] (fun s3 s4 s5 s6 wr=>∃ (i:Nat) (vs:List Value),s4 = .int .i64 (i:Int)/\i <= k/\MatI w wr s3 vs ((trT rm k).take i)) (fun _ s4 _ _ _=>k - (intOf s4).toNat)
 case atStart=>exact ⟨0,[],rfl,Nat.zero_le _,by rw [List.take_zero]; exact MatI.nil⟩
 case round=>
  obtain ⟨i,vs,rfl,hi,hQ⟩:=hrel
  have hxr:Nxt w wr:=hQ.nxt
  have HQ:=zc hQ
  clear hQ
  go_wp2_with fail
  refine zf (HWD.out _ zaa) ?_
  rintro e w1 ⟨rfl,hx1⟩
  by_cases hin:i < k
  ·have hlt : decide ((i : Int) < (k : Int)) = true := by simp; omega
   have hlt':(i:Int) < (k:Int):=by omega
   have hadd:IntKind.i64.wrap ((i:Int)+1)=((i+1:Nat):Int):=by have:=HN.out; rw [zx]; omega
   obtain ⟨R,hR⟩:∃ R:List (List UInt8),R=rm.map fun r=>r.getD i []:=⟨_,rfl⟩
   have HRW:=zc (show (trT rm k)[i]?=some R by rw [hR]; unfold trT; rw [zy1,List.getElem?_range hin]; rfl)
   have HRL:=zc (show R.length=n by rw [hR,List.length_map,HL.out])
   have HRX:=zc (fun (j:Nat) (r:List (List UInt8)) (h:rm[j]?=some r)=>(show R[j]?=some (r.getD i []) by rw [hR,zy1,h]; rfl))
   have HW1:=zc (zaa:Nxt w w1); have HWR:=zc (hx1:Nxt wr w1); have HIN:=zc hin
   clear hR hin hxr hx1
   go_wp2_with fail
   go_loopw [5,6] (fun s5 s6 wr=>∃ j:Nat,s6 = .int .i64 (j:Int)/\j <= n/\TxI w1 wr s5 (R.take j)) (fun _ s6 _=>n - (intOf s6).toNat)
   case atStart=>exact ⟨0,rfl,Nat.zero_le _,by rw [List.take_zero]; exact TxI.nil⟩
   case round=>
    obtain ⟨j,rfl,hj,hT⟩:=hrel
    have HT:=zc hT
    have hxq:Nxt w1 wr:=hT.nxt
    clear hT
    by_cases hjn:j < n
    ·have hlt2 : decide ((j : Int) < (n : Int)) = true := by simp; omega
     have hlt2':(j:Int) < (n:Int):=by omega
     have hadd2:IntKind.i64.wrap ((j:Int)+1)=((j+1:Nat):Int):=by have:=HN.out; rw [zx]; omega
     obtain ⟨r,hr⟩:∃ r,rm[j]?=some r:=⟨rm[j]'(by rw [HL.out]; exact hjn),zg _⟩
     have hrk:=HK.out r (zk hr)
     obtain ⟨ad,B,kr,dr,rfl,cr,hkr,hsr⟩:=(MAt.nxt HM.out (⟨HW1.out.out.trans (hxq.out.mono HW1.out.out.size)⟩:Nxt w wr)) j r hr
     obtain ⟨adq,rfl,cq⟩:=hsr i (r.getD i []) (by rw [zy0,zg (by rw [hrk]; exact HIN.out)]; rfl)
     obtain rfl:kr=k:=by omega
     have k1:CellAt wr (ad.add j) (.slice (some adq) kr dr):=⟨cr⟩
     have k2:CellAt wr (adq.add i) (str (r.getD i [])):=⟨cq⟩
     have HRJ:=zc (HRX.out j r hr)
     have htl:(R.take j).length=j:=by rw [List.length_take,HRL.out]; omega
     have hown:=zrs HT.out.own (zaa:Nxt wr (wr.alloc (.cells #[str (r.getD i [])] 22)))
     rw [htl] at hown
     obtain ⟨y,hy⟩:∃ y,r.getD i []=y:=⟨_,rfl⟩
     rw [hy] at HRJ k2 hown
     have HOWN:=zc hown
     have HXQ:=zc hxq; have HJN:=zc hjn; have HTL:=zc htl
     clear hr hrk cr cq hsr htl hown hxq hjn hkr hy
     go_wp2_with (at_builtin; refine wpList_append_own _ rfl (.tmp 19) (.tmp 27) 59 rfl w1.heap.size 22 j0 (str []) 1 16 Tryz.underlying59 HJ0.out HY0.out HY1.out HY2.out rfl (by decide) _ _ _ rfl HOWN.out ⟨wr.heap.size,0,none⟩ 1 1 [str y] rfl rfl zlt (fun u hu=>by rw [List.mem_singleton.1 hu]; rfl) (by have:=HN.out; have:=HJN.out; unfold maxLen; omega) (by have:=HN.out; have:=HJN.out; omega) (by have:=HXQ.out.out.size; rw [World.size_alloc]; omega) ?_; intro v10 w10 hown10 hgrow10 _)
     have HN10:=zc (TxI.step (y:=y) (h:=HT.out) (hg:=hgrow10) (hW:=zaa) (ho:=by rw [HTL.out]; exact hown10))
     clear hown10 hgrow10
     go_wp2_with fail
     go_roundw
     case rel=>exact ⟨j+1,rfl,HJN.out,by
      have:=HN10.out
      rw [List.take_add_one,HRJ.out]; exact this⟩
     case measure=>have:=HJN.out; simp [intOf]; omega
    ·have hlt2 : decide ((j : Int) < (n : Int)) = false := by simp; omega
     have hlt2':¬ (j:Int) < (n:Int):=by omega
     obtain rfl:j=n:=by omega
     have htk:R.take j=R:=List.take_of_length_le (by rw [HRL.out]; omega)
     have hT2:=HT.out
     rw [htk] at hT2
     have hRT:=RowT.of_own hT2.own (fun e=>by have:=HRL.out; have:=HN.out; rw [e] at *; simp at *; omega)
     obtain ⟨gR,capR,csR,rfl,hbR,hcR⟩:=id hRT
     have hM:=HQ.out.nxt_ ⟨HWR.out.out.trans (hxq.out.mono HWR.out.out.size)⟩
     have HHM:=zc hM; have HRT:=zc hRT
     have htl:((trT rm k).take i).length=i:=by rw [List.length_take,zrd]; have:=HIN.out; omega
     have hown:=zrs hM.own (zaa:Nxt wr (wr.alloc (.cells #[.slice (some ⟨gR,0,none⟩) R.length capR] 59)))
     rw [htl] at hown
     have HOWN:=zc hown; have HTL:=zc htl; have HSZ:=zc hM.nxt.out.size
     clear HT hT2 hRT hbR hcR hM hown htl htk hxq hj HQ
     go_wp2_with (at_builtin; refine wpList_append_own _ rfl (.tmp 29) (.tmp 31) 49 rfl w.heap.size 59 i0 _ 1 24 Tryz.underlying49 HI0.out HZ0.out HZ1.out HZ2.out rfl (by decide) _ _ _ rfl HOWN.out ⟨wr.heap.size,0,none⟩ 1 1 [.slice (some ⟨gR,0,none⟩) R.length capR] rfl rfl zlt (fun u hu=>by rw [List.mem_singleton.1 hu]; rfl) (by have:=HN.out; have:=HIN.out; unfold maxLen; omega) (by have:=HN.out; have:=HIN.out; omega) (by have:=HSZ.out; rw [World.size_alloc]; omega) ?_; intro v11 w11 hown11 hgrow11 _)
     have HN11:=zc (MatI.step (r:=R) (h:=HHM.out) (hg:=hgrow11) (hW:=zaa) (hy:=HRT.out.nxt zaa) (ho:=by rw [HTL.out]; exact hown11))
     clear hown11 hgrow11
     go_wp2_with fail
     go_roundw
     case rel=>exact ⟨i+1,_,rfl,HIN.out,by
      have:=HN11.out
      rw [List.take_add_one,HRW.out]; exact this⟩
     case measure=>have:=HIN.out; simp [intOf]; omega
  ·have hlt : decide ((i : Int) < (k : Int)) = false := by simp; omega
   have hlt':¬ (i:Int) < (k:Int):=by omega
   obtain rfl:i=k:=by omega
   have htk:(trT rm i).take i=trT rm i:=List.take_of_length_le (by rw [zrd]; omega)
   have h2:=HQ.out.nxt_ hx1
   rw [htk] at h2
   obtain ⟨D,d,rfl,hD⟩:=h2.mat
   rw [zrd]
   have HD:=zc hD; have HXX:=zc h2.nxt
   clear h2 hD htk HQ
   go_wp2_with fail
   go_ret
   exact ⟨_,_,rfl,HD.out,HXX.out⟩
end
structure KeC (rm:List (List (List UInt8))) (xs:List (List UInt8)):Prop where
 m:matE rm=0
 fm:fewMB rm 5 5 4=true
 k:xs.length=(rm.headD []).length
 fx:fewLB xs 5 4=true
theorem trT_q {rm:List (List (List UInt8))} {k i j:Nat} (hm:∀ r ∈ rm,r.length=k) (hi:i < rm.length) (hj:j < k):qR (qM (trT rm k)) j i=qR (qM rm) i j:=by
 have hr:(rm[i]).length=k:=hm _ (List.getElem_mem hi)
 have e1:(qM (trT rm k)).getD j []=(rm.map fun r=>r.getD j []).map readQ:=za3 (by unfold qM trT; rw [zy1,zy1,List.getElem?_range hj]; rfl)
 unfold qR
 rw [e1,ztb (zg hi)]
 rw [za3 (x:=readQ ((rm[i]).getD j [])) (by rw [zy1,zy1,zg hi]; rfl)]
 exact (za3 (by rw [zy1,zg (by omega)]; rw [za3 (zg (by omega:j < (rm[i]).length))]; rfl)).symm
theorem zs3 {n r k:Nat} {Q R:Nat -> Nat -> Rat} (h:∀ i,i < r -> ∀ j,j < n -> Q i j=R i j) (hk:RkIs n r Q k):RkIs n r R k:=by
 obtain ⟨E,p,h1,h2,h3⟩:=hk
 exact ⟨E,p,h1,fun i hi=>zsc h (h2 i hi),fun i hi=>zrG (fun j hj=>h i hi j hj) (h3 i hi)⟩
theorem num_b:2 ^ 16 * (2 ^ 16) ^ 5=2 ^ 96:=by decide +kernel
theorem num_e:bndE (2 ^ 96) 4 < 10 ^ 600/\bndE (2 ^ 96) 4 < B64 ^ 25:=by decide +kernel
section
variable {rm:List (List (List UInt8))} {xs:List (List UInt8)} (h:KeC rm xs)
include h
theorem KeC.mok:MOk rm xs.length:=by rw [h.k]; exact zfz h.m
theorem KeC.sizes:0 < rm.length/\rm.length <= 5/\0 < xs.length/\xs.length <= 5:=⟨h.mok.pos,(zrM h.fm).1,h.mok.mpos,(zr2 h.fx).1⟩
theorem KeC.bm:∀ r ∈ rm,∀ x ∈ r,Bn (readQ x) (2 ^ 16) (2 ^ 16):=fun r hr x hx=>ztd (((zrM h.fm).2 r hr).2 x hx)
theorem KeC.bx:∀ x ∈ xs,Bn (readQ x) (2 ^ 16) (2 ^ 16):=fun x hx=>ztd ((zr2 h.fx).2 x hx)
theorem KeC.rx:∀ x ∈ xs,readE x=0:=fun x hx=>((zr2 h.fx).2 x hx).2.1
theorem KeC.rk:RkIs xs.length rm.length (qR (qM rm)) (rankZ rm):=zsp h.mok.cols h.k.symm
theorem KeC.rkT:rankZ (trT rm xs.length)=rankZ rm:=by
 have hl:∀ r ∈ trT rm xs.length,r.length=rm.length:=fun r hr=>by
  obtain ⟨j,_,rfl⟩:=List.mem_map.1 hr
  simp
 have hh:((trT rm xs.length).headD []).length=rm.length:=by
  have e:(trT rm xs.length)[0]?=some (rm.map fun r=>r.getD 0 []):=by unfold trT; rw [zy1,List.getElem?_range h.mok.mpos]; rfl
  rw [List.headD_eq_head?_getD,List.head?_eq_getElem?,e]; simp
 have h1:=zsp hl hh
 rw [zrd] at h1
 exact zsZ h.rk (zs3 (fun j hj i hi=>trT_q h.mok.cols hi hj) h1)
theorem KeC.ker:KerIs xs.length rm.length (qR (qM rm)) (zb6 rm).length (kerF rm) (fun l=>((zb6 rm).getD l 0).toNat)/\rankZ rm+(zb6 rm).length=xs.length/\(kerS rm).piv.length=rankZ rm:=by
 have h1:=ztw (rows:=qM rm) (n:=xs.length) (ztc h.mok.cols) (S:=kerS rm) (by unfold kerS zcm; rw [<- h.k,zsm]) (K:=kerK rm) (by unfold kerK; rw [<- h.k]) (Fr:=zb6 rm) (by unfold zb6 freeL; rw [<- h.k])
 rw [zr9] at h1
 obtain ⟨a,k',b,c,d⟩:=h1
 have e:rankZ rm=k':=zsD h.rk b
 have hF:kerF rm=kerX (kerS rm) (kerK rm) (zb6 rm) xs.length:=by unfold kerF; rw [h.k]
 rw [hF]
 exact ⟨a,by rw [e]; exact c,by rw [e]; exact d⟩
theorem KeC.bV (l j:Nat) (hl:l < (zb6 rm).length):Bn (kerF rm l j) (bndE (2 ^ 96) 4) (bndE (2 ^ 96) 4):=by
 have hk:=h.ker
 have ht:(kerS rm).piv.length <= 4:=by have:=h.sizes; omega
 have hz:∀ zs ∈ zcm rm,∀ z ∈ zs,z.natAbs <= 2 ^ 96:=fun zs hzs z hz=>by
  obtain ⟨r,hr,rfl⟩:=zfE hzs
  have h1:=zsB (qs:=r.map readQ) (N:=2 ^ 16) (D:=2 ^ 16) (by decide) (fun q hq=>by
   obtain ⟨x,hx,rfl⟩:=List.mem_map.1 hq; exact h.bm r hr x hx) z (List.mem_reverse.1 hz)
  rw [List.length_map] at h1
  rw [<- num_b]
  exact zo h1 (Nat.mul_le_mul_left _ (Nat.pow_le_pow_right (by decide) (by rw [h.mok.cols r hr]; exact h.sizes.2.2.2)))
 have hlen:∀ zs ∈ zcm rm,zs.length=xs.length:=fun zs hzs=>by
  obtain ⟨r,hr,rfl⟩:=zfE hzs
  rw [List.length_reverse,zca,List.length_map]; exact h.mok.cols r hr
 obtain ⟨e1,e2⟩:=zte (n:=xs.length) (rows:=zcm rm) (B:=2 ^ 96) (by decide) hlen (zsY hz) xs.length
 have hS:elGo xs.length (zcm rm) xs.length=kerS rm:=by unfold kerS; rw [h.k]
 rw [hS] at e1 e2
 have hm:=zsO (B:=2 ^ 96) (by decide) ht
 have h1:1 <= bndE (2 ^ 96) 4:=zr3 (by decide) 4
 obtain ⟨_,_,_,_,hf0,_⟩:=zsK (n:=xs.length) (r:=rm.length) (rows:=zcm rm) zbA hlen
 rw [hS] at hf0
 have hneg:∀ r c,Bn (-(Rat.divInt (((kerS rm).rows.getD r []).getD c 0) (kerS rm).fac)) (bndE (2 ^ 96) 4) (bndE (2 ^ 96) 4):=fun r c=>by
  have hb:=(zsP (a:=((kerS rm).rows.getD r []).getD c 0) hf0).mono (zo (e1 r c) hm) (zo e2 hm)
  obtain ⟨q,hq⟩:∃ q,Rat.divInt (((kerS rm).rows.getD r []).getD c 0) (kerS rm).fac=q:=⟨_,rfl⟩
  rw [hq] at hb ⊢
  exact ⟨by rw [show (-q).num = -q.num from rfl,Int.natAbs_neg]; exact hb.num,by rw [show (-q).den=q.den from rfl]; exact hb.den⟩
 unfold kerF kerX
 split
 ·exact hneg _ _
 ·split
  ·exact ⟨h1,h1⟩
  ·exact ⟨Nat.zero_le _,h1⟩
theorem KeC.fV (l j:Nat) (hl:l < (zb6 rm).length) (_:j < xs.length):Fits (kerF rm l j):=ztn (h.bV l j hl) num_e.1 num_e.1
theorem KeC.sV (l j:Nat) (hl:l < (zb6 rm).length):Sz (kerF rm l j) 25:=sz_bn (h.bV l j hl) num_e.2 num_e.2
omit h in
theorem zsV {F:Nat -> Nat -> Rat} {c i:Nat}:trow F c i=((List.range c).map (F i)).map zad:=by unfold trow; rw [List.map_map]; rfl
omit h in
theorem zrD {c j:Nat} {g:Nat -> Rat} (hj:j < c):((List.range c).map g).getD j 0=g j:=za3 (by rw [zy1,List.getElem?_range hj]; rfl)
theorem KeC.lead (i:Nat) (hi:i < (zb6 rm).length):((zb6 rm).getD i 0).toNat < xs.length/\kerF rm i (((zb6 rm).getD i 0).toNat)=1/\(∀ j,j < ((zb6 rm).getD i 0).toNat -> kerF rm i j=0)/\(∀ o,o < (zb6 rm).length -> o ≠ i -> kerF rm o (((zb6 rm).getD i 0).toNat)=0)/\∀ o,o < i -> ((zb6 rm).getD o 0).toNat < ((zb6 rm).getD i 0).toNat:=by
 have hr:=h.ker.1.rre
 exact ⟨hr.lt i hi,by have:=hr.one i i hi hi; rw [if_pos rfl] at this; exact this,fun j hj=>hr.low i hi j hj,fun o ho hoi=>by have:=hr.one o i ho hi; rw [if_neg hoi] at this; exact this,fun o ho=>hr.inc o i ho hi⟩
theorem KeC.dot0 (i:Nat) (hi:i < (zb6 rm).length) (r:Nat) (row:List (List UInt8)) (hr:rm[r]?=some row):dotL (row.map readQ) ((List.range xs.length).map (kerF rm i)) xs.length=0:=by
 have h1:=h.ker.1.nul i hi r (zh.1 hr).1
 rw [zrn,rsum_congr (g:=fun j=>qR (qM rm) r j * kerF rm i j) (fun j hj=>by rw [zrD hj]; unfold qR; rw [ztb hr])]
 exact h1
def movQ (rm:List (List (List UInt8))) (xs:List (List UInt8)) (i:Nat):List Rat:=(List.range xs.length).map fun c=>(xs.map readQ).getD c 0+3 * kerF rm i c
theorem KeC.dotM (i:Nat) (hi:i < (zb6 rm).length) (r:Nat) (row:List (List UInt8)) (hr:rm[r]?=some row):dotL (row.map readQ) (movQ rm xs i) xs.length=dotL (row.map readQ) (xs.map readQ) xs.length:=by
 have h1:=h.dot0 i hi r row hr
 rw [zrn] at h1
 rw [zrn,zrn,rsum_congr (g:=fun j=>(row.map readQ).getD j 0 * (xs.map readQ).getD j 0+3 * ((row.map readQ).getD j 0 * ((List.range xs.length).map (kerF rm i)).getD j 0)) (fun j hj=>by unfold movQ; rw [zrD hj,zrD hj]; grind),zrw,zrj,h1,Rat.mul_zero,Rat.add_zero]
theorem KeC.xsz (c:Nat):Sz ((xs.map readQ).getD c 0) 2:=by
 rw [zy0]
 cases hq:(xs.map readQ)[c]? with
 | none=>exact ziL (k:=0)
 | some q=>
  obtain ⟨x,hx,rfl⟩:=List.mem_map.1 (zk hq)
  exact sz_bn (h.bx x hx) (by decide +kernel) (by decide +kernel)
theorem KeC.msz:∀ r ∈ rm,∀ x ∈ r,Sz (readQ x) 2:=fun r hr x hx=>sz_bn (h.bm r hr x hx) (by decide +kernel) (by decide +kernel)
theorem KeC.movsz (i:Nat) (hi:i < (zb6 rm).length):∀ q ∈ movQ rm xs i,Sz q 30:=fun q hq=>by
 obtain ⟨c,_,rfl⟩:=List.mem_map.1 hq
 have i1:=h.xsz c
 have i2:=h.sV i c hi
 have i3:Sz (3:Rat) 1:=⟨zaf (by decide +kernel),zaf (by decide +kernel)⟩
 have i4:Sz ((xs.map readQ).getD c 0+3 * kerF rm i c) (2+(1+25)+1):=za
 exact ⟨zo i4.num (by omega),zo i4.den (by omega)⟩
theorem KeC.trok:MOk (trT rm xs.length) rm.length:=
 ⟨by rw [zrd]; exact h.mok.mpos, by rw [zrd]; exact h.mok.mle, fun r hr => by
  obtain ⟨j,_,rfl⟩:=List.mem_map.1 hr; simp,h.mok.pos,h.mok.le,fun r hr x hx=>by
  obtain ⟨j,hj,rfl⟩:=List.mem_map.1 hr
  obtain ⟨q,hq,rfl⟩:=List.mem_map.1 hx
  have hl:=h.mok.cols q hq
  have hj:=List.mem_range.1 hj
  rw [za3 (zg (by omega:j < q.length))]
  exact h.mok.ok q hq _ (List.getElem_mem _)⟩
theorem KeC.trsz:∀ r ∈ trT rm xs.length,∀ x ∈ r,Sz (readQ x) 2/\x.length < 2 ^ 40:=fun r hr x hx=>by
 obtain ⟨j,hj,rfl⟩:=List.mem_map.1 hr
 obtain ⟨q,hq,rfl⟩:=List.mem_map.1 hx
 have hl:=h.mok.cols q hq
 have hj:=List.mem_range.1 hj
 rw [za3 (zg (by omega:j < q.length))]
 refine ⟨h.msz q hq _ (List.getElem_mem _),?_⟩
 have:=((zrM h.fm).2 q hq).2 _ (List.getElem_mem (by omega:j < q.length))
 have:=this.1; omega
end
class PrOk (w:World) (a b:Value) (t:outParam (List UInt8)):Prop where
 out:∀ w',Nxt w w' -> Calls Tryz.prog 53 #[a,b] w' (PRet w' (str t))
theorem pr_o {w w':World} {a b:Value} {t:List UInt8} [h:PrOk w a b t] (hn:Nxt w w'):Calls Tryz.prog 53 #[a,b] w' (PRet w' (str t)):=h.out w' hn
section
variable {A C:Option Addr} {n c k e:Nat} {rm:List (List (List UInt8))} {xs:List (List UInt8)} {w:World}
theorem numberKernels (HA:Hid zgf) [hg:Glo w] (hm:MAt w A rm) (hx:SAt w C xs) (ln:rm.length=n) (lk:xs.length=k) (hn:n < 2 ^ 63) (hk:k < 2 ^ 63)
  (hrm:∀ r ∈ rm,r.length < 2 ^ 63) (htm:∀ r ∈ rm,∀ x ∈ r,x.length < 2 ^ 63):
  Calls Tryz.prog 6 #[.slice A n c,.slice C k e] w (fun e w'=>e = .returned (.bool true)/\Below w.heap.size w w'):=by
 have HM:=zc hm; have HX:=zc hx; have LN:=zc ln; have LK:=zc lk
 have HCM:Hid (∀ w',Nxt w w' -> Calls _ _ _ w' _):=zc (fun w' h=>zrV (c:=c) (MAt.nxt hm h) ln hn hrm htm)
 have HFM:Hid (∀ w',Nxt w w' -> Calls _ _ _ w' _):=zc (fun w' h=>zsd (c:=c) (p:=5) (m:=5) (d:=4) (MAt.nxt hm h) ln hn hrm (by decide))
 have HFX:Hid (∀ w',Nxt w w' -> Calls _ _ _ w' _):=zc (fun w' h=>zrY (c:=e) (m:=5) (d:=4) (SAt.nxt hx h) lk hk (by decide))
 obtain ⟨E1,hE1⟩:∃ E,matE rm=E:=⟨_,rfl⟩
 obtain ⟨F1,hF1⟩:∃ E,fewMB rm 5 5 4=E:=⟨_,rfl⟩
 obtain ⟨F3,hF3⟩:∃ E,fewLB xs 5 4=E:=⟨_,rfl⟩
 rw [hE1] at HCM
 rw [hF1] at HFM
 rw [hF3] at HFX
 have HE:=zc (show _/\_/\_ from ⟨hE1,hF1,hF3⟩)
 clear hm hx ln lk hn hk hrm htm hE1 hF1 hF3
 go_enter Tryz.func6,Tryz.ntmps6
 go_wp2_with fail
 refine (HA.out _).mono ?_
 rintro e w1 ⟨rfl,hb1⟩
 have hx1:Nxt w w1:=⟨hb1⟩
 have hw1:Nxt w w1:=zaa
 have hg1:Glo w1:=Glo.nxt (a:=w)
 clear hb1
 go_wp2_with fail
 refine zf (HCM.out _ zaa) ?_
 rintro e w2 ⟨rfl,hx2⟩
 have hw2:Nxt w w2:=zaa
 have hg2:Glo w2:=Glo.nxt (a:=w)
 by_cases h1:E1=0
 rotate_left
 ·have y1 : (E1 != 0) = true := by simpa using h1
  go_wp2_with fail
  refine (HA.out _).mono ?_
  rintro e wz ⟨rfl,hbz⟩
  have hxz:Nxt _ wz:=⟨hbz⟩
  go_wp2_with fail
  go_ret
  exact ⟨rfl,(zaa:Nxt w wz).out⟩
 subst h1
 go_wp2_with fail
 refine zf (HFM.out _ zaa) ?_
 rintro e w4 ⟨rfl,hx4⟩
 have hw4:Nxt w w4:=zaa
 have hg4:Glo w4:=Glo.nxt (a:=w)
 cases F1
 ·skip
  go_wp2_with fail
  refine (HA.out _).mono ?_
  rintro e wz ⟨rfl,hbz⟩
  have hxz:Nxt _ wz:=⟨hbz⟩
  go_wp2_with fail
  go_ret
  exact ⟨rfl,(zaa:Nxt w wz).out⟩
 have hok:MOk rm (rm.headD []).length:=zfz HE.out.1
 obtain ⟨m,hmm⟩:∃ m,(rm.headD []).length=m:=⟨_,rfl⟩
 rw [hmm] at hok
 have HOK:=zc hok; have HMM:=zc hmm
 have hpn:decide ((0:Int) < (n:Int))=true:=by have:=hok.pos; have:=LN.out; simp; omega
 have hpn':(0:Int) < (n:Int):=by have:=hok.pos; have:=LN.out; omega
 obtain ⟨ad,B0,k0,d0,rfl,k3,hk0,_⟩:=(MAt.nxt HM.out (zaa:Nxt w w4)) 0 (rm.headD []) (zeW hok.pos)
 rw [zrg] at k3
 rw [hmm] at hk0
 subst hk0
 have c4:CellAt w4 ad (.slice B0 m d0):=⟨k3⟩
 clear hok hmm k3
 by_cases hkm:k=m
 rotate_left
 ·have y1 : ((k : Int) != (m : Int)) = true := by simp; omega
  go_wp2_with fail
  refine (HA.out _).mono ?_
  rintro e wz ⟨rfl,hbz⟩
  have hxz:Nxt _ wz:=⟨hbz⟩
  go_wp2_with fail
  go_ret
  exact ⟨rfl,(zaa:Nxt w wz).out⟩
 subst hkm
 go_wp2_with fail
 refine zf (HFX.out _ zaa) ?_
 rintro e w5 ⟨rfl,hx5⟩
 have hw5:Nxt w w5:=zaa
 have hg5:Glo w5:=Glo.nxt (a:=w)
 cases F3
 ·skip
  go_wp2_with fail
  refine (HA.out _).mono ?_
  rintro e wz ⟨rfl,hbz⟩
  have hxz:Nxt _ wz:=⟨hbz⟩
  go_wp2_with fail
  go_ret
  exact ⟨rfl,(zaa:Nxt w wz).out⟩
 have HC:=zc (show KeC rm xs from ⟨HE.out.1,HE.out.2.1,LK.out.trans HMM.out.symm,HE.out.2.2⟩)
 have HS:=zc (show 0 < n/\n <= 5/\0 < k/\k <= 5 by have:=HC.out.sizes; rw [LN.out,LK.out] at this; omega)
 have hl40:∀ r ∈ rm,∀ x ∈ r,x.length < 2 ^ 40:=fun r hr x hx=>by
  have:=((zrM HC.out.fm).2 r hr).2 x hx
  have:=this.1; omega
 have hsm:∀ q,q <= 5 -> elW (whB 2) q <= 2 ^ 18:=fun q hq=>by
  have h2:elW (whB 2) q <= elW (whB 2) 5:=zdU hq
  exact zo h2 (by decide)
 have HL40:=zc hl40; have HSM:=zc hsm
 have HW5:=zc (zaa:Nxt w w5)
 have c5:CellAt w5 ad (.slice B0 k d0):=za
 clear hl40 hsm hx1 hx2 hx4 hx5 hg1 hg2 hg4 c4 HCM HFM HFX
 go_wp2_with fail
 refine zf (znO (s:=2) (MAt.nxt HM.out HW5.out) LN.out (by have:=HS.out; omega) HL40.out (by decide) HC.out.msz (fun _=>HSM.out n HS.out.2.1)) ?_
 rintro e w6 hz
 rw [HC.out.m,HMM.out] at hz
 obtain ⟨D,rfl,hD,hx6⟩:=MRet.ok hz (fun a b ha hb=>HC.out.fV a b ha (by rw [LK.out]; exact hb))
 have hker:=HC.out.ker
 obtain ⟨d,hd⟩:∃ d,(zb6 rm).length=d:=⟨_,rfl⟩
 obtain ⟨V,hV⟩:∃ V,kerF rm=V:=⟨_,rfl⟩
 rw [hd,LK.out] at hker
 rw [hd,hV] at hD
 rw [hd]
 have HD:=zc hd; have HV:=zc hV; have HDK:=zc hker.2.1
 have HW6:=zc (⟨HW5.out.out.trans (hx6.out.mono HW5.out.out.size)⟩:Nxt w w6)
 have c6:CellAt w6 ad (.slice B0 k d0):=CellAt.nxt (h:=hx6) (k:=c5)
 have hg6:Glo w6:=Glo.nxt (a:=w5)
 have HK6:=zc (show MAt w6 D (texM V d k) from hD)
 clear hz hker hd hV hD hx6 c5 hg5
 go_wp2_with fail
 refine zf (Rank_c (s:=2) (MAt.nxt HM.out HW6.out) LN.out (by have:=HS.out; omega) HL40.out (by decide) HC.out.msz (fun _=>zo (HSM.out n HS.out.2.1) (by decide))) ?_
 rintro e w7 ⟨rfl,hx7⟩
 rw [if_pos HC.out.m,HC.out.m]
 have HW7:=zc (⟨HW6.out.out.trans (hx7.out.mono HW6.out.out.size)⟩:Nxt w w7)
 have hg7:Glo w7:=Glo.nxt (a:=w6)
 go_wp2_with fail
 refine zf (zr5 (k:=k) (MAt.nxt HM.out HW7.out) LN.out (by have:=HS.out; omega) (by have:=HS.out; omega) (fun r hr=>by rw [<- LK.out]; exact HC.out.mok.cols r hr) (by have:=HS.out; omega)) ?_
 rintro e w8 ⟨T,td,rfl,hT,hx8⟩
 have hg8:Glo w8:=Glo.nxt (a:=w7)
 have etr:trT rm k=trT rm xs.length:=by rw [LK.out]
 rw [etr] at hT
 go_wp2_with fail
 refine zf (Rank_c (s:=2) hT (by rw [zrd]; exact LK.out) (by have:=HS.out; omega) (fun r hr x hx=>(HC.out.trsz r hr x hx).2) (by decide) (fun r hr x hx=>(HC.out.trsz r hr x hx).1) (fun _=>zo (HSM.out k HS.out.2.2.2) (by decide))) ?_
 rintro e w9 ⟨rfl,hx9⟩
 rw [ztm HC.out.trok,if_pos rfl,HC.out.rkT]
 obtain ⟨rk,hrk⟩:∃ rk,rankZ rm=rk:=⟨_,rfl⟩
 rw [hrk]
 have hrd:rk+d=k:=by rw [<- hrk]; exact HDK.out
 have hrn:rk <= n:=by rw [<- hrk,<- LN.out]; exact HC.out.rk.le
 have y2:decide ((rk:Int) < 0)=false:=by simp
 have y3:decide ((n:Int) < (rk:Int))=false:=by simp; omega
 have y3n:¬ n < rk:=by omega
 have y3m:decide (n < rk)=false:=by simp; omega
 have y4:IntKind.i64.wrap ((rk:Int)+(d:Int))=(k:Int):=by have:=HS.out; rw [zx]; omega
 have HX9:=zc (⟨hx7.out.trans ((hx8.out.mono hx7.out.size).trans (hx9.out.mono (zo hx7.out.size hx8.out.size)))⟩:Nxt w6 w9)
 have c9:CellAt w9 ad (.slice B0 k d0):=CellAt.nxt (h:=HX9.out) (k:=c6)
 have hg9:Glo w9:=Glo.nxt (a:=w8)
 have C9:=zc c9
 have HK9:=zc (MAt.nxt HK6.out HX9.out)
 have HW9:=zc (⟨HW6.out.out.trans (HX9.out.out.mono HW6.out.out.size)⟩:Nxt w w9)
 clear hT etr hrk hrd hx7 hx8 hx9 hg6 hg7 hg8 c6 HK6
 have HD5:=zc (show d <= 5 by have:=HS.out; have:=HDK.out; omega)
 obtain ⟨j0,hj0,hy0,hy1,hy2⟩:=info_parts zfa
 have HJ0:=zc hj0; have HY0:=zc hy0; have HY1:=zc hy1; have HY2:=zc hy2
 clear hj0 hy0 hy1 hy2
 go_wp2_with fail
 go_loopw [11,12,13,14,15,16,17,95] (fun s11 s12 s13 s14 s15 s16 s17 s95 wr=>∃ i:Nat,s95 = .int .i64 (i:Int)/\i <= d/\s11 = .int .i64 (if i=0 then -1 else (((zb6 rm).getD (i - 1) 0).toNat:Int))/\Nxt w9 wr) (fun _ _ _ _ _ _ _ s95 _=>d - (intOf s95).toNat)
 case atStart=>exact ⟨0,rfl,Nat.zero_le _,rfl,zaa⟩
 case round=>
  obtain ⟨i,rfl,hi,rfl,hxr⟩:=hrel
  by_cases hin:i < d
  ·have hlt : decide ((i : Int) < (d : Int)) = true := by simp; omega
   have hlt':(i:Int) < (d:Int):=by omega
   have hadd:IntKind.i64.wrap ((i:Int)+1)=((i+1:Nat):Int):=by have:=HD5.out; rw [zx]; omega
   obtain ⟨hfk,hf1,hflow,hfo,hfinc⟩:=HC.out.lead i (by rw [HD.out]; exact hin)
   rw [HV.out] at hf1 hflow hfo
   rw [LK.out] at hfk
   rw [HD.out] at hfo
   obtain ⟨a,ha⟩:∃ a:Int,(if i=0 then -1 else (((zb6 rm).getD (i - 1) 0).toNat:Int))=a:=⟨_,rfl⟩
   have haf:a < ((((zb6 rm).getD i 0).toNat:Nat):Int):=by
    rw [<- ha]
    split
    ·omega
    ·have:=hfinc (i - 1) (by omega); omega
   rw [ha]
   obtain ⟨f,hf⟩:∃ f,((zb6 rm).getD i 0).toNat=f:=⟨_,rfl⟩
   rw [hf] at hfk hf1 hflow hfo haf
   have HF:=zc hf; have HFK:=zc hfk; have HF1:=zc hf1; have HFL:=zc hflow; have HFO:=zc hfo; have HIN:=zc hin
   have HTX:=zc (show ∀ o,o < d -> ∀ j,j < k -> Fits (V o j) from fun o ho j hj=>by rw [<- HV.out]; exact HC.out.fV o j (by rw [HD.out]; exact ho) (by rw [LK.out]; exact hj))
   obtain ⟨adk,Bi,ki,di,rfl,ck,hki,hsi⟩:=(MAt.nxt HK9.out hxr) i (trow V k i) (zro hin)
   rw [zri] at hki
   subst hki
   have k1:CellAt wr (adk.add i) (.slice Bi k di):=⟨ck⟩
   have kad:CellAt wr ad (.slice B0 k d0):=CellAt.nxt (h:=hxr) (k:=C9.out)
   have hre:∀ x ∈ trow V k i,readE x=0/\x.length < 2 ^ 63:=fun x hx=>by
    obtain ⟨j,hj,rfl⟩:=List.mem_map.1 hx
    have hfit:=HTX.out i HIN.out j (List.mem_range.1 hj)
    exact ⟨(zoj hfit).1,Nat.lt_of_lt_of_le (ztf hfit) (by decide)⟩
   have HCR:Hid (∀ w',Nxt wr w' -> Calls _ _ _ w' _):=zc (fun w' h=>zrS (c:=di) (SAt.nxt hsi h) zri (by have:=HS.out; omega) (fun x hx=>(hre x hx).2))
   rw [zcd (l:=(trow V k i).map readE) (fun y hy=>by obtain ⟨x,hx,rfl⟩:=List.mem_map.1 hy; exact (hre x hx).1)] at HCR
   have hpk:(0:Int) < (n:Int):=by have:=HS.out; omega
   have hpk2:0 < n:=by have:=HS.out; omega
   have HAF:=zc haf
   clear hfk hf1 hflow hfo hfinc ha haf hf hsi hre ck hi hin
   go_wp2_with fail
   (refine Code.nameW ?_; intro W hW; go_region_held3 (fun w'=>ButO W [] w') (exact zab) ((go_at_call 45; refine zf (HCR.out _ zaa) ?_; rintro e w10 ⟨rfl,_⟩)))
   go_wp2_with fail
   go_loopw [13] (fun s13 wx=>∃ l:Nat,s13 = .int .i64 (l:Int)/\l <= f/\Nxt w9 wx) (fun s13 _=>k - (intOf s13).toNat)
   case atStart=>exact ⟨0,rfl,Nat.zero_le _,zaa⟩
   case round=>
    obtain ⟨l,rfl,hl,hx2⟩:=hrel
    obtain ⟨adk2,B2,k2,d2,e2,ck2,hk2,hs2⟩:=(MAt.nxt HK9.out hx2) i (trow V k i) (zro HIN.out)
    obtain rfl:adk=adk2:=zl e2
    rw [zri] at hk2
    subst hk2
    have hlk:l < k:=Nat.lt_of_le_of_lt hl HFK.out
    obtain ⟨adq,rfl,cq⟩:=hs2 l (zad (V i l)) (zsg hlk)
    have hadd2:IntKind.i64.wrap ((l:Int)+1)=((l+1:Nat):Int):=by have:=HS.out; rw [zx]; omega
    have y5:decide ((l:Int) < (k:Int))=true:=by simp; omega
    have y5':(l:Int) < (k:Int):=by omega
    by_cases hlf:l < f
    ·rw [HFL.out l hlf, show zad 0 = [48] by decide +kernel] at cq
     have q1:CellAt _ (adk.add i) (.slice (some adq) k d2):=⟨ck2⟩
     have q2:CellAt _ (adq.add l) (str [48]):=⟨cq⟩
     have HLF:=zc hlf
     clear ck2 cq e2 hs2 hlk hl hlf k1 kad
     go_wp2_with fail
     go_roundw
     case rel=>exact ⟨l+1,rfl,HLF.out,hx2⟩
     case measure=>have:=HLF.out; have:=HFK.out; simp [intOf]; omega
    ·obtain rfl : l = f := by omega
     rw [HF1.out,show zad 1=[49] by decide +kernel] at cq
     have q1:CellAt _ (adk.add i) (.slice (some adq) k d2):=⟨ck2⟩
     have q2:CellAt _ (adq.add l) (str [49]):=⟨cq⟩
     have y6:((l:Int) == (k:Int))=false:=by simp; omega
     have y7:decide ((l:Int) <= a)=false:=by have:=HAF.out; simp; omega
     have y7':¬ (l:Int) <= a:=by have:=HAF.out; omega
     clear ck2 cq e2 hs2 hlk hl hlf k1 kad
     go_wp2_with fail
     go_loopw [14,160] (fun s14 s160 wx=>∃ o:Nat,s160 = .int .i64 (o:Int)/\o <= d/\Nxt w9 wx) (fun _ s160 _=>d - (intOf s160).toNat)
     case atStart=>exact ⟨0,rfl,Nat.zero_le _,hx2⟩
     case round=>
      obtain ⟨o,rfl,ho,hx3⟩:=hrel
      have hadd3:IntKind.i64.wrap ((o:Int)+1)=((o+1:Nat):Int):=by have:=HD5.out; rw [zx]; omega
      clear q1 q2
      by_cases hod:o < d
      ·have y8 : decide ((o : Int) < (d : Int)) = true := by simp; omega
       have y8':(o:Int) < (d:Int):=by omega
       have hid':(i:Int) < (d:Int):=by have:=HIN.out; omega
       have hlk':(l:Int) < (k:Int):=by have:=HFK.out; omega
       obtain ⟨adk3,B3,k3,d3,e3,ck3,hk3,hs3⟩:=(MAt.nxt HK9.out hx3) i (trow V k i) (zro HIN.out)
       obtain rfl:adk=adk3:=zl e3
       rw [zri] at hk3
       subst hk3
       have HOD:=zc hod
       by_cases hoi:o=i
       ·subst hoi
        have q3:CellAt _ (adk.add o) (.slice B3 k d3):=⟨ck3⟩
        have y9:((o:Int) != (o:Int))=false:=by simp
        clear ck3 e3 hs3 ho hod
        go_wp2_with fail
        go_quiet (fail)
        go_wp2_with fail
        go_roundw
        case rel=>exact ⟨o+1,rfl,HOD.out,zaa⟩
        case measure=>have:=HOD.out; simp [intOf]; omega
       ·obtain ⟨adk4, B4, k4, d4, e4, ck4, hk4, hs4⟩ := (MAt.nxt HK9.out hx3) o (trow V k o) (zro hod)
        obtain rfl:adk=adk4:=zl e4
        rw [zri] at hk4
        subst hk4
        obtain ⟨adp,rfl,cp⟩:=hs4 l (zad (V o l)) (zsg HFK.out)
        rw [HFO.out o hod hoi,show zad 0=[48] by decide +kernel] at cp
        have q3:CellAt _ (adk.add i) (.slice B3 k d3):=⟨ck3⟩
        have q4:CellAt _ (adk.add o) (.slice (some adp) k d4):=⟨ck4⟩
        have q5:CellAt _ (adp.add l) (str [48]):=⟨cp⟩
        have y9:((o:Int) != (i:Int))=true:=by simp; omega
        clear ck3 e3 hs3 ck4 e4 hs4 cp ho hod hoi
        go_wp2_with fail
        go_quiet (fail)
        go_wp2_with fail
        go_roundw
        case rel=>exact ⟨o+1,rfl,HOD.out,zaa⟩
        case measure=>have:=HOD.out; simp [intOf]; omega
      ·have y8 : decide ((o : Int) < (d : Int)) = false := by simp; omega
       have y8':¬ (o:Int) < (d:Int):=by omega
       obtain rfl:o=d:=by omega
       go_wp2_with fail
       go_loopw [15,16,192] (fun s15 s16 s192 wx=>∃ c1:Nat,s192 = .int .i64 (c1:Int)/\c1 <= k/\TxI w9 wx s15 (((movQ rm xs i).map zad).take c1)) (fun _ _ s192 _=>k - (intOf s192).toNat)
       case atStart=>exact ⟨0,rfl,Nat.zero_le _,by rw [List.take_zero]; exact TxI.nil_ hx3⟩
       case round=>
        obtain ⟨c1,rfl,hc1,hT⟩:=hrel
        have hx4:Nxt w9 wr:=hT.nxt
        have HT:=zc hT
        have hml:((movQ rm xs i).map zad).length=k:=by rw [List.length_map,movQ,List.length_map,List.length_range,LK.out]
        have HML:=zc hml
        clear hT hml
        by_cases hck:c1 < k
        ·have y10 : decide ((c1 : Int) < (k : Int)) = true := by simp; omega
         have y10':(c1:Int) < (k:Int):=by omega
         have hadd4:IntKind.i64.wrap ((c1:Int)+1)=((c1+1:Nat):Int):=by have:=HS.out; rw [zx]; omega
         have hid':(i:Int) < (o:Int):=by have:=HIN.out; omega
         obtain ⟨x,hx⟩:∃ x,xs[c1]?=some x:=⟨xs[c1]'(by rw [LK.out]; exact hck),zg _⟩
         have hcan:zad (readQ x)=x:=zf8 (HC.out.rx x (zk hx))
         obtain ⟨adx,rfl,cx⟩:=(SAt.nxt HX.out (⟨HW9.out.out.trans (hx4.out.mono HW9.out.out.size)⟩:Nxt w _)) c1 x hx
         rw [<- hcan] at cx
         obtain ⟨adk5,B5,k5,d5,e5,ck5,hk5,hs5⟩:=(MAt.nxt HK9.out hx4) i (trow V k i) (zro HIN.out)
         obtain rfl:adk=adk5:=zl e5
         rw [zri] at hk5
         subst hk5
         obtain ⟨adv,rfl,cv⟩:=hs5 c1 (zad (V i c1)) (zsg hck)
         have i1:Sz (readQ x) 2:=by
          have:=HC.out.xsz c1
          rw [za3 (x:=readQ x) (by rw [zy1,hx]; rfl)] at this
          exact this
         have i2:Sz (V i c1) 25:=by rw [<- HV.out]; exact HC.out.sV i c1 (by rw [HD.out]; exact HIN.out)
         have HMV:=zc (show ((movQ rm xs i).map zad)[c1]?=some (zad (readQ x+3 * V i c1)) by
          rw [zy1]
          unfold movQ
          rw [zy1,List.getElem?_range (by rw [LK.out]; exact hck)]
          show some (zad ((xs.map readQ).getD c1 0+3 * kerF rm i c1))=_
          rw [za3 (x:=readQ x) (by rw [zy1,hx]; rfl),HV.out])
         obtain ⟨v,hv⟩:∃ v,V i c1=v:=⟨_,rfl⟩
         obtain ⟨p,hp⟩:∃ p,readQ x=p:=⟨_,rfl⟩
         rw [hv] at cv i2 HMV
         rw [hp] at cx i1 HMV
         have i3:Sz (3:Rat) 1:=⟨zaf (by decide +kernel),zaf (by decide +kernel)⟩
         have HM3:Hid (∀ w',Calls Tryz.prog 52 #[str [51],str (zad v)] w' (PRet w' (str (zad (3 * v))))):=zc (fun w'=>by
          have h:=zoh (p:=3) (q:=v) (w:=w') (by decide) (by decide)
          rw [show zad 3=[51] by decide +kernel] at h
          exact h)
         have HAD:Hid (∀ w',Calls Tryz.prog 51 #[str (zad p),str (zad (3 * v))] w' (PRet w' (str (zad (p+3 * v))))):=zc (fun w'=>zn9 (p:=p) (q:=3 * v) (w:=w') (by decide) (by decide))
         have q6:CellAt _ (adx.add c1) (str (zad p)):=⟨cx⟩
         have q7:CellAt _ (adk.add i) (.slice (some adv) k d5):=⟨ck5⟩
         have q8:CellAt _ (adv.add c1) (str (zad v)):=⟨cv⟩
         have HTL:=zc (show (((movQ rm xs i).map zad).take c1).length=c1 by rw [List.length_take,HML.out]; omega)
         have HCK:=zc hck; have HX4:=zc hx4.out.size
         clear hx hcan cx e5 ck5 hs5 cv i1 i2 i3 hv hp hck hc1
         go_upto_region 30 with fail
         go_region_law ((first
          | (refine zfe rfl ?_; go_simp; go_at_call 52; refine zf (HM3.out _) ?_; rintro e w11 ⟨rfl,hx11⟩; simp only [])
          | (refine zfe rfl ?_; go_simp; go_at_call 51; refine zf (HAD.out _) ?_; rintro e w12 ⟨rfl,hx12⟩; simp only [])
          | (refine zfe rfl (wp_append_own (P:=Tryz.prog) _ (.tmp 195) (.tmp 209) 59 rfl w9.heap.size 22 j0 (str []) 1 16 Tryz.underlying59 HJ0.out HY0.out HY1.out HY2.out rfl (by decide) _ _ _ rfl (zrs HT.out.own zaa) _ 1 1 [str (zad (p+3 * v))] rfl rfl zlt (fun u hu=>by rw [List.mem_singleton.1 hu]; rfl) (by have:=HS.out; have:=HCK.out; rw [HTL.out]; unfold maxLen; omega) (by have:=HS.out; have:=HCK.out; rw [HTL.out]; omega) (zo HX4.out (za:Ext wr _).out.size) ?_); intro v13 w13 ho13 hg13 _; have HN13:=zc (TxI.step (h:=HT.out) (hg:=hg13) (hW:=zaa) (ho:=ho13)))))
         all_goals go_wp2_with fail
         all_goals go_roundw
         all_goals first
          | exact ⟨c1+1,rfl,HCK.out,by
            have:=HN13.out
            rw [List.take_add_one,HMV.out]; exact this⟩
          | (have:=HCK.out; simp [intOf]; omega)
        ·have y10 : decide ((c1 : Int) < (k : Int)) = false := by simp; omega
         have y10':¬ (c1:Int) < (k:Int):=by omega
         obtain rfl:c1=k:=by omega
         have htk:((movQ rm xs i).map zad).take c1=(movQ rm xs i).map zad:=List.take_of_length_le (by rw [HML.out]; omega)
         have hT2:=HT.out
         rw [htk] at hT2
         obtain ⟨adm,cm,rfl,hsm⟩:=hT2.sat (fun e=>by have:=HML.out; have:=HS.out; rw [e] at *; simp at *; omega)
         rw [HML.out]
         clear HT hT2 htk hc1
         go_wp2_with fail
         go_loopw [17,214] (fun s17 s214 wx=>∃ r:Nat,s214 = .int .i64 (r:Int)/\r <= n/\Nxt w9 wx/\SAt wx (some adm) ((movQ rm xs i).map zad)) (fun _ s214 _=>n - (intOf s214).toNat)
         case atStart=>exact ⟨0,rfl,Nat.zero_le _,hx4,hsm⟩
         case round=>
          obtain ⟨r,rfl,hr,hx5,hsm2⟩:=hrel
          by_cases hrn2:r < n
          ·have y11 : decide ((r : Int) < (n : Int)) = true := by simp; omega
           have y11':(r:Int) < (n:Int):=by omega
           have hadd5:IntKind.i64.wrap ((r:Int)+1)=((r+1:Nat):Int):=by have:=HS.out; rw [zx]; omega
           have hid':(i:Int) < (o:Int):=by have:=HIN.out; omega
           obtain ⟨row,hrow⟩:∃ row,rm[r]?=some row:=⟨rm[r]'(by rw [LN.out]; exact hrn2),zg _⟩
           have hrk:row.length=c1:=by rw [<- LK.out]; exact HC.out.mok.cols row (zk hrow)
           have HW:=zc (⟨HW9.out.out.trans (hx5.out.mono HW9.out.out.size)⟩:Nxt w _)
           obtain ⟨ad6,B6,k6,d6,e6,cr6,hk6,hs6⟩:=(MAt.nxt HM.out HW.out) r row hrow
           obtain rfl:ad=ad6:=zl e6
           rw [hrk] at hk6
           subst hk6
           obtain ⟨adk7,B7,k7,d7,e7,ck7,hk7,hs7⟩:=(MAt.nxt HK9.out hx5) i (trow V c1 i) (zro HIN.out)
           obtain rfl:adk=adk7:=zl e7
           rw [zri] at hk7
           subst hk7
           have hcan:(row.map readQ).map zad=row:=by
            rw [List.map_map]
            exact (List.map_congr_left (fun x hx=>zf8 (HC.out.mok.ok row (zk hrow) x hx))).trans (List.map_id row)
           have hcanx:(xs.map readQ).map zad=xs:=by
            rw [List.map_map]
            exact (List.map_congr_left (fun x hx=>zf8 (HC.out.rx x hx))).trans (List.map_id xs)
           have hsr:∀ q ∈ row.map readQ,Sz q 2:=fun q hq=>by
            obtain ⟨x,hx,rfl⟩:=List.mem_map.1 hq
            exact HC.out.msz row (zk hrow) x hx
           have hd0:=HC.out.dot0 i (by rw [HD.out]; exact HIN.out) r row hrow
           have hdm:=HC.out.dotM i (by rw [HD.out]; exact HIN.out) r row hrow
           rw [LK.out,HV.out] at hd0
           rw [LK.out] at hdm
           obtain ⟨T,hT⟩:∃ T,zad (dotL (row.map readQ) (xs.map readQ) c1)=T:=⟨_,rfl⟩
           have hP1:PrOk wr (.slice B6 c1 d6) (.slice B7 c1 d7) [48]:=⟨fun w' h=>by
            have h2:=zrE (c:=d6) (e:=d7) (P:=row.map readQ) (Q:=(List.range c1).map (V i)) (a:=2) (b:=25) (A:=B6) (B:=B7) (n:=c1) (w:=w') (by rw [hcan]; exact SAt.nxt hs6 h) (by rw [<- zsV]; exact SAt.nxt hs7 h) (by rw [List.length_map,hrk]) (by rw [List.length_map,List.length_range]) (by have:=HS.out; omega) hsr (fun q hq=>by
             obtain ⟨j,_,rfl⟩:=List.mem_map.1 hq
             rw [<- HV.out]; exact HC.out.sV i j (by rw [HD.out]; exact HIN.out)) (by have:=HS.out; omega) (by decide) (by decide) (by decide)
            rw [hd0,show zad 0=[48] by decide +kernel] at h2
            exact h2⟩
           have hP2:PrOk wr (.slice B6 c1 d6) (.slice (some adm) c1 cm) T:=⟨fun w' h=>by
            have h2:=zrE (c:=d6) (e:=cm) (P:=row.map readQ) (Q:=movQ rm xs i) (a:=2) (b:=30) (A:=B6) (B:=some adm) (n:=c1) (w:=w') (by rw [hcan]; exact SAt.nxt hs6 h) (SAt.nxt hsm2 h) (by rw [List.length_map,hrk]) (by have:=HML.out; rw [List.length_map] at this; exact this) (by have:=HS.out; omega) hsr (HC.out.movsz i (by rw [HD.out]; exact HIN.out)) (by have:=HS.out; omega) (by decide) (by decide) (by decide)
            rw [hdm,hT] at h2
            exact h2⟩
           have hP3:PrOk wr (.slice B6 c1 d6) (.slice C c1 e) T:=⟨fun w' h=>by
            have h2:=zrE (c:=d6) (e:=e) (P:=row.map readQ) (Q:=xs.map readQ) (a:=2) (b:=2) (A:=B6) (B:=C) (n:=c1) (w:=w') (by rw [hcan]; exact SAt.nxt hs6 h) (by rw [hcanx]; exact SAt.nxt HX.out ⟨HW.out.out.trans (h.out.mono HW.out.out.size)⟩) (by rw [List.length_map,hrk]) (by rw [List.length_map,LK.out]) (by have:=HS.out; omega) hsr (fun q hq=>by
             obtain ⟨j,hj⟩:=List.mem_iff_getElem?.1 hq
             have:=HC.out.xsz j
             rw [za3 hj] at this
             exact this) (by have:=HS.out; omega) (by decide) (by decide) (by decide)
            rw [hT] at h2
            exact h2⟩
           have q9:CellAt _ (ad.add r) (.slice B6 c1 d6):=⟨cr6⟩
           have q10:CellAt _ (adk.add i) (.slice B7 c1 d7):=⟨ck7⟩
           have HRN:=zc hrn2; have HSM2:=zc hsm2
           clear hrow hrk e6 cr6 hs6 e7 ck7 hs7 hcan hcanx hsr hd0 hdm hT hr hrn2 hsm2
           go_wp2_with fail
           (refine Code.nameW ?_; intro W hW; go_region_held3 (fun w'=>ButO W [] w') (exact zab) ((go_at_call 53; refine zf (pr_o (w:=wr) zaa) ?_; rintro e w14 ⟨rfl,_⟩)))
           go_wp2_with fail
           go_roundw
           case rel=>exact ⟨r+1,rfl,HRN.out,zaa,SAt.nxt HSM2.out zaa⟩
           case measure=>have:=HRN.out; simp [intOf]; omega
          ·have y11 : decide ((r : Int) < (n : Int)) = false := by simp; omega
           have y11':¬ (r:Int) < (n:Int):=by omega
           clear hsm2
           go_wp2_with fail
           go_roundw
           case rel=>exact ⟨i+1,rfl,HIN.out,by rw [if_neg (by omega),Nat.add_sub_cancel,HF.out],hx5⟩
           case measure=>have:=HIN.out; simp [intOf]; omega
  ·have hlt : decide ((i : Int) < (d : Int)) = false := by simp; omega
   have hlt':¬ (i:Int) < (d:Int):=by omega
   obtain ⟨a,ha⟩:∃ a:Int,(if i=0 then -1 else (((zb6 rm).getD (i - 1) 0).toNat:Int))=a:=⟨_,rfl⟩
   rw [ha]
   clear ha
   have HXR:=zc hxr
   go_wp2_with fail
   go_ret
   exact ⟨rfl,HW9.out.out.trans (HXR.out.out.mono HW9.out.out.size)⟩
end
end Go.Proofs.YtombhkpniddceaaGreatDoor
