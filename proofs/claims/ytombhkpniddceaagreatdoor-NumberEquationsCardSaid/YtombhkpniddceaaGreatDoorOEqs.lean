import Derived.Test.YtombhkpniddceaaGreatDoorQ47
import Derived.Test.YtombhkpniddceaaGreatDoorM43
set_option maxHeartbeats 25600000
set_option maxRecDepth 100000
set_option synthInstance.maxSize 20000
set_option linter.all false
namespace Go.Proofs.YtombhkpniddceaaGreatDoor
open Go.RowKit
def isum (n:Nat) (f:Nat -> Int):Int:=match n with
 | 0=>0
 | n+1=>isum n f+f n
theorem zra {n:Nat} {f g:Nat -> Int} (h:∀ i,i < n -> f i=g i):isum n f=isum n g:=by
 induction n with
 | zero=>rfl
 | succ n ih=>unfold isum; rw [ih (fun i hi=>h i (by omega)),h n (by omega)]
theorem zrk {n:Nat} {f:Nat -> Int} (h:∀ i,i < n -> f i=0):isum n f=0:=by
 induction n with
 | zero=>rfl
 | succ n ih=>unfold isum; rw [ih (fun i hi=>h i (by omega)),h n (by omega)]; rfl
theorem zrw (n:Nat) (f g:Nat -> Int):isum n (fun i=>f i+g i)=isum n f+isum n g:=by
 induction n with
 | zero=>rfl
 | succ n ih=>unfold isum; rw [ih]; omega
theorem zrc (n:Nat) (f:Nat -> Int) (a:Int):isum n (fun i=>a * f i)=a * isum n f:=by
 induction n with
 | zero=>exact (Int.mul_zero a).symm
 | succ n ih=>unfold isum; rw [ih,Int.mul_add]
theorem zsV (n:Nat) (f:Nat -> Int):isum n (fun i => - f i) = - isum n f:=by
 induction n with
 | zero=>rfl
 | succ n ih=>unfold isum; rw [ih]; omega
theorem zr6 (n m:Nat) (f:Nat -> Nat -> Int):isum n (fun i=>isum m (fun j=>f i j))=isum m (fun j=>isum n (fun i=>f i j)):=by
 induction n with
 | zero=>exact (zrk (fun i _=>rfl)).symm
 | succ n ih=>
  show isum n _+isum m _=isum m (fun j=>isum n (fun i=>f i j)+f n j)
  rw [ih,zrw]
theorem zrM (f:Nat -> Nat -> Int):∀ n,isum (n+1) (fun j=>isum n (fun l=>f j l))=isum (n+1) (fun b=>isum b (fun a=>f b a+f a (b - 1)))
 | 0=>rfl
 | n+1=>by
  have ih:=zrM f n
  have h1:isum (n+1+1) (fun j=>isum (n+1) (fun l=>f j l))=isum (n+1) (fun j=>isum n (fun l=>f j l))+isum (n+1) (fun j=>f j n)+isum (n+1) (fun l=>f (n+1) l):=by
   show isum (n+1) (fun j=>isum n (fun l=>f j l)+f j n)+isum (n+1) (fun l=>f (n+1) l)=_
   rw [zrw]
  have h2:isum (n+1+1) (fun b=>isum b (fun a=>f b a+f a (b - 1)))=isum (n+1) (fun b=>isum b (fun a=>f b a+f a (b - 1)))+(isum (n+1) (fun a=>f (n+1) a)+isum (n+1) (fun a=>f a n)):=by
   show isum (n+1) _+isum (n+1) (fun a=>f (n+1) a+f a n)=_
   rw [zrw]
  rw [h1,h2,ih]; omega
def skipC (j c:Nat):Nat:=if c < j then c else c+1
def altS:Nat -> Int
 | 0=>1
 | n+1 => - altS n
theorem zrK:∀ n,altS n * altS n=1
 | 0=>rfl
 | n+1=>by show (- altS n) * (- altS n)=1; rw [Int.neg_mul_neg]; exact zrK n
theorem zrZ (a:Nat):∀ b,altS (a+b)=altS a * altS b
 | 0=>by show altS a=altS a * 1; omega
 | b+1=>by show - altS (a+b)=altS a * (- altS b); rw [zrZ a b,Int.mul_neg]
def detZ:Nat -> (Nat -> Nat -> Int) -> Int
 | 0,_=>1
 | k+1,M=>isum (k+1) (fun j=>altS j * M 0 j * detZ k (fun r c=>M (r+1) (skipC j c)))
theorem zrp:∀ {k:Nat} {M N:Nat -> Nat -> Int},(∀ r c,r < k -> c < k -> M r c=N r c) -> detZ k M=detZ k N
 | 0,_,_,_=>rfl
 | k+1,M,N,h=>by
  unfold detZ
  refine zra fun j hj=>?_
  rw [h 0 j (by omega) hj,zrp (M:=fun r c=>M (r+1) (skipC j c)) (N:=fun r c=>N (r+1) (skipC j c)) fun r c hr hc=>h _ _ (by omega) (by unfold skipC; split <;> omega)]
def setRow (M:Nat -> Nat -> Int) (i:Nat) (v:Nat -> Int):Nat -> Nat -> Int:=fun r c=>if r=i then v c else M r c
theorem zrt:∀ {k:Nat} (M:Nat -> Nat -> Int) (i:Nat) (u v:Nat -> Int),i < k -> detZ k (setRow M i (fun c=>u c+v c))=detZ k (setRow M i u)+detZ k (setRow M i v)
 | 0,_,_,_,_,h=>by omega
 | k+1,M,0,u,v,_=>by
  unfold detZ
  rw [<- zrw]
  refine zra fun j hj=>?_
  have e:∀ w:Nat -> Int,(fun r c=>setRow M 0 w (r+1) (skipC j c))=fun r c=>M (r+1) (skipC j c):=fun w=>by
   funext r c; unfold setRow; rw [if_neg (by omega)]
  rw [e,e,e]
  unfold setRow
  rw [if_pos rfl,if_pos rfl,if_pos rfl,Int.mul_add,Int.add_mul]
 | k+1,M,i+1,u,v,h=>by
  unfold detZ
  rw [<- zrw]
  refine zra fun j hj=>?_
  have e:∀ w:Nat -> Int,(fun r c=>setRow M (i+1) w (r+1) (skipC j c))=setRow (fun r c=>M (r+1) (skipC j c)) i (fun c=>w (skipC j c)):=fun w=>by
   funext r c; unfold setRow
   by_cases hr:r=i
   ·rw [if_pos (by omega),if_pos hr]
   ·rw [if_neg (by omega),if_neg hr]
  rw [e,e,e,zrt (fun r c=>M (r+1) (skipC j c)) i (fun c=>u (skipC j c)) (fun c=>v (skipC j c)) (by omega)]
  have e0:∀ w:Nat -> Int,setRow M (i+1) w 0 j=M 0 j:=fun w=>by unfold setRow; rw [if_neg (by omega)]
  rw [e0,e0,e0,Int.mul_add]
theorem zr9 {a b c:Nat} (h:a < b):skipC a (skipC (b - 1) c)=skipC b (skipC a c):=by
 unfold skipC
 repeat' split
 all_goals omega
theorem zsK {k:Nat} {M:Nat -> Nat -> Int} (h:∀ c,c < k+2 -> M 0 c=M 1 c):detZ (k+2) M=0:=by
 have e:detZ (k+2) M=isum (k+1+1) (fun j=>isum (k+1) (fun l=>altS j * M 0 j * (altS l * M 1 (skipC j l) * detZ k (fun r c=>M (r+2) (skipC j (skipC l c)))))):=by
  show isum (k+2) _=_
  refine zra fun j hj=>?_
  show altS j * M 0 j * isum (k+1) (fun l=>altS l * M 1 (skipC j l) * detZ k (fun r c=>M (r+2) (skipC j (skipC l c))))=_
  rw [<- zrc]
 rw [e,zrM]
 refine zrk fun b hb=>zrk fun a ha=>?_
 have s1:skipC b a=a:=by unfold skipC; rw [if_pos ha]
 have s2:skipC a (b - 1)=b:=by unfold skipC; rw [if_neg (by omega)]; omega
 rw [s1,s2]
 have s3:(fun r c=>M (r+2) (skipC a (skipC (b - 1) c)))=fun r c=>M (r+2) (skipC b (skipC a c)):=by
  funext r c; rw [zr9 ha]
 rw [s3,<- h a (by omega),<- h b (by omega)]
 have s4:altS b = - altS (b - 1):=by
  obtain ⟨d,rfl⟩:∃ d,b=d+1:=⟨b - 1,by omega⟩
  rfl
 rw [s4]
 grind
theorem zrA:∀ {k:Nat} {M:Nat -> Nat -> Int} (i:Nat),i+1 < k -> (∀ c,c < k -> M i c=M (i+1) c) -> detZ k M=0
 | 0,_,_,h,_=>by omega
 | 1,_,_,h,_=>by omega
 | k+2,M,0,_,h=>zsK h
 | k+2,M,i+1,hi,h=>by
  unfold detZ
  refine zrk fun j hj=>?_
  rw [zrA (k:=k+1) i (by omega) (fun c hc=>h _ (by unfold skipC; split <;> omega)),Int.mul_zero]
theorem setRow_self (M:Nat -> Nat -> Int) (i:Nat):setRow M i (M i)=M:=by
 funext r c; unfold setRow; split
 ·rename_i h; rw [h]
 ·rfl
theorem zrs {M:Nat -> Nat -> Int} {i j:Nat} {u v:Nat -> Int} (h:i ≠ j):setRow (setRow M i u) j v=setRow (setRow M j v) i u:=by
 funext r c; unfold setRow
 by_cases h1:r=i
 ·subst h1; rw [if_neg h,if_pos rfl,if_pos rfl]
 ·by_cases h2 : r = j
  ·rw [if_pos h2,if_neg h1,if_pos h2]
  ·rw [if_neg h2,if_neg h1,if_neg h1,if_neg h2]
theorem zsJ {k:Nat} (M:Nat -> Nat -> Int) (i:Nat) (hi:i+1 < k) (u v:Nat -> Int):detZ k (setRow (setRow M i u) (i+1) v) = - detZ k (setRow (setRow M i v) (i+1) u):=by
 have z:∀ w:Nat -> Int,detZ k (setRow (setRow M i w) (i+1) w)=0:=fun w=>zrA i hi (fun c _=>by
  unfold setRow; rw [if_neg (by omega),if_pos rfl,if_pos rfl])
 have h:=z (fun c=>u c+v c)
 rw [zrt _ _ _ _ hi] at h
 have e:∀ x:Nat -> Int,detZ k (setRow (setRow M i (fun c=>u c+v c)) (i+1) x)=detZ k (setRow (setRow M i u) (i+1) x)+detZ k (setRow (setRow M i v) (i+1) x):=fun x=>by
  rw [zrs (by omega),zrt _ _ _ _ (by omega),zrs (by omega),zrs (i:=i+1) (by omega)]
 rw [e,e,z,z] at h
 omega
def zri (M:Nat -> Nat -> Int) (i:Nat):Nat -> Nat -> Int:=fun r c=>if r=0 then M i c else if r <= i then M (r - 1) c else M r c
theorem zro {k:Nat}:∀ (i:Nat) (M:Nat -> Nat -> Int),i < k -> detZ k (zri M i)=altS i * detZ k M
 | 0,M,_=>by
  rw [show zri M 0=M by funext r c; unfold zri; split; (rename_i h; rw [h]); split; (exfalso; omega); rfl]
  show _=1 * _; rw [Int.one_mul]
 | i+1,M,h=>by
  have h1:=zsJ M i h (M (i+1)) (M i)
  rw [show setRow (setRow M i (M i)) (i+1) (M (i+1))=M by rw [setRow_self,setRow_self]] at h1
  have h2:=zro (k:=k) i (setRow (setRow M i (M (i+1))) (i+1) (M i)) (by omega)
  have e:zri (setRow (setRow M i (M (i+1))) (i+1) (M i)) i=zri M (i+1):=by
   funext r c
   unfold zri setRow
   repeat' split
   all_goals first | rfl | (exfalso; omega) | (congr 1; omega)
  rw [e,h1] at h2
  rw [h2]
  show altS i * - detZ k M = - altS i * detZ k M
  rw [Int.mul_neg,Int.neg_mul]
theorem zrJ {k:Nat} {M:Nat -> Nat -> Int} {i j:Nat} (hij:i < j) (hj:j < k) (h:∀ c,c < k -> M i c=M j c):detZ k M=0:=by
 have h1:=zro j M hj
 have h2:=zro (k:=k) (i+1) (zri M j) (by omega)
 have h3:detZ k (zri (zri M j) (i+1))=0:=by
  refine zrA 0 (by omega) (fun c hc=>?_)
  have h4:=h c hc
  show (if (i+1:Nat)=0 then M j c else if i+1 <= j then M i c else M (i+1) c)=(if (0:Nat)=0 then M j c else if 0 <= j then M (0 - 1) c else M 0 c)
  rw [if_neg (by omega),if_pos (by omega),if_pos rfl]
  exact h4
 rw [h2,h1] at h3
 have a:=zrK (i+1); have b:=zrK j
 have:altS (i+1) * (altS (i+1) * (altS j * (altS j * detZ k M)))=0:=by
  rw [show altS (i+1) * (altS (i+1) * (altS j * (altS j * detZ k M)))=(altS (i+1) * (altS j * detZ k M)) * (altS (i+1) * altS j) by grind,h3,Int.zero_mul]
 rw [<- Int.mul_assoc,a,Int.one_mul,<- Int.mul_assoc,b,Int.one_mul] at this
 exact this
def adjZ (k:Nat) (M:Nat -> Nat -> Int) (i m:Nat):Int:=altS (i+m) * detZ (k - 1) (fun r c=>M (skipC m r) (skipC i c))
theorem zsZ {k:Nat} (M:Nat -> Nat -> Int) {l m:Nat} (hl:l < k) (hm:m < k):isum k (fun i=>M l i * adjZ k M i m)=if l=m then detZ k M else 0:=by
 obtain ⟨n,rfl⟩:∃ n,k=n+1:=⟨k - 1,by omega⟩
 have h1:=zro m (setRow M m (M l)) hm
 have h2:detZ (n+1) (zri (setRow M m (M l)) m)=isum (n+1) (fun j=>altS j * M l j * detZ n (fun r c=>M (skipC m r) (skipC j c))):=by
  show isum (n+1) _=_
  refine zra fun j hj=>?_
  have e:(fun r c=>zri (setRow M m (M l)) m (r+1) (skipC j c))=fun r c=>M (skipC m r) (skipC j c):=by
   funext r c
   unfold zri setRow
   rw [if_neg (by omega)]
   by_cases h:r < m
   ·rw [if_pos (by omega), if_neg (by omega)]
    unfold skipC; rw [if_pos h]; rfl
   ·rw [if_neg (by omega), if_neg (by omega)]
    unfold skipC; rw [if_neg h]
  rw [e]
  unfold zri setRow
  rw [if_pos rfl,if_pos rfl]
 have h3:isum (n+1) (fun i=>M l i * adjZ (n+1) M i m)=altS m * detZ (n+1) (zri (setRow M m (M l)) m):=by
  rw [h2,<- zrc]
  refine zra fun j hj=>?_
  unfold adjZ
  rw [zrZ]
  show M l j * (altS j * altS m * detZ n _)=_
  grind
 rw [h3,h1,<- Int.mul_assoc,zrK,Int.one_mul]
 split
 ·rename_i h; rw [h,setRow_self]
 ·rename_i h
  rcases Nat.lt_or_ge l m with h4 | h4
  ·exact zrJ h4 hm (fun c _=>by unfold setRow; rw [if_neg (by omega),if_pos rfl])
  ·exact zrJ (i:=m) (j:=l) (by omega) hl (fun c _=>by unfold setRow; rw [if_pos rfl,if_neg (by omega)])
theorem zsO {n:Nat} {M:Nat -> Nat -> Int}:adjZ (n+1) M n n=detZ n M:=by
 unfold adjZ
 rw [zrZ,zrK,Int.one_mul]
 exact zrp fun r c hr hc=>by unfold skipC; rw [if_pos (by omega),if_pos (by omega)]
theorem zrz {n m:Nat} (hm:m < n) (f:Nat -> Int) (a:Int):isum n (fun i=>f i * (if i=m then a else 0))=f m * a:=by
 induction n with
 | zero=>omega
 | succ n ih=>
  unfold isum
  by_cases h:n=m
  ·subst h
   rw [if_pos rfl,zrk (fun i hi=>by rw [if_neg (by omega),Int.mul_zero]),Int.zero_add]
  ·rw [if_neg h,ih (by omega),Int.mul_zero,Int.add_zero]
theorem zsa {n m:Nat} (hm:m < n) (f:Nat -> Int) (a:Int):isum n (fun i=>(if m=i then a else 0) * f i)=a * f m:=by
 rw [<- Int.mul_comm (f m) a,<- zrz hm f a]
 exact zra fun i _=>by
  rw [Int.mul_comm]
  by_cases h:m=i
  ·rw [if_pos h,if_pos h.symm]
  ·rw [if_neg h,if_neg (fun e=>h e.symm)]
theorem zrv (n:Nat) (f:Nat -> Int) (a:Int):isum n (fun i=>f i * a)=isum n f * a:=by
 rw [Int.mul_comm,<- zrc]; exact zra fun i _=>Int.mul_comm _ _
theorem zsl (n:Nat) (f g:Nat -> Int):isum n (fun i=>f i - g i)=isum n f - isum n g:=by
 induction n with
 | zero=>rfl
 | succ n ih=>unfold isum; rw [ih]; omega
theorem ztj {k:Nat} {N A R:Nat -> Nat -> Int} {q:Nat -> Nat} {D e:Int} {p:Nat} {t:Nat -> Int}
  (he:e * e=1) (hD:D=e * detZ k (fun l m=>N l (q m))) (hD0:D ≠ 0) (hR:∀ i,i < k -> ∀ j,R i j=isum k (fun l=>A i l * N l j))
  (hP:∀ i m,i < k -> m < k -> R i (q m)=if i=m then D else 0) (ht:∀ j,t j=D * N k j - isum k (fun i=>N k (q i) * R i j)) (htp:t p ≠ 0):
  ∃ A':Nat -> Nat -> Int,t p=e * detZ (k+1) (fun l m=>N l (if m < k then q m else p))/\(∀ i,i < k -> ∀ j,R i j * t p - t j * R i p=D * isum (k+1) (fun l=>A' i l * N l j))/\∀ j,t j=isum (k+1) (fun l=>A' k l * N l j):=by
 obtain ⟨T,hT⟩:∃ T:Nat -> Int,T=fun l=>if l=k then D else - isum k (fun i=>N k (q i) * A i l):=⟨_,rfl⟩
 have hTk:T k=D:=by rw [hT]; exact if_pos rfl
 have ht2:∀ j,t j=isum (k+1) (fun l=>T l * N l j):=fun j=>by
  show t j=isum k (fun l=>T l * N l j)+T k * N k j
  rw [hTk,ht j]
  have e1:isum k (fun l=>T l * N l j) = - isum k (fun i=>N k (q i) * R i j):=by
   have e2:isum k (fun i=>N k (q i) * R i j)=isum k (fun i=>isum k (fun l=>N k (q i) * A i l * N l j)):=zra fun i hi=>by
    rw [hR i hi j,<- zrc]; exact zra fun l _=>by rw [Int.mul_assoc]
   rw [e2,zr6,<- zsV]
   exact zra fun l hl=>by
    rw [hT]; show (if l=k then D else _) * N l j=_
    rw [if_neg (by omega),zrv,Int.neg_mul]
  rw [e1]; omega
 obtain ⟨C,hC⟩:∃ C:Nat -> Nat -> Int,C=fun i l=>if i=k then D * T l else (if l=k then 0 else A i l) * t p - R i p * T l:=⟨_,rfl⟩
 have hS:∀ i,i < k -> ∀ j,R i j * t p - t j * R i p=isum (k+1) (fun l=>C i l * N l j):=fun i hi j=>by
  have e1:isum (k+1) (fun l=>C i l * N l j)=isum (k+1) (fun l=>(if l=k then 0 else A i l) * N l j * t p - R i p * (T l * N l j)):=zra fun l _=>by
   rw [hC]; show (if i=k then _ else _) * N l j=_
   rw [if_neg (by omega)]; grind
  have e2:isum (k+1) (fun l=>(if l=k then 0 else A i l) * N l j)=R i j:=by
   show isum k _+(if k=k then 0 else A i k) * N k j=_
   rw [if_pos rfl,Int.zero_mul,Int.add_zero,hR i hi j]
   exact zra fun l hl=>by rw [if_neg (by omega)]
  rw [e1,zsl,zrv,e2,zrc,<- ht2]; grind
 have hSk:∀ j,D * t j=isum (k+1) (fun l=>C k l * N l j):=fun j=>by
  rw [ht2 j,<- zrc]
  exact zra fun l _=>by rw [hC]; show _=(if k=k then _ else _) * _; rw [if_pos rfl,Int.mul_assoc]
 have htq:∀ m,m < k -> t (q m)=0:=fun m hm=>by
  rw [ht (q m),zra (g:=fun i=>N k (q i) * (if i=m then D else 0)) (fun i hi=>by rw [hP i m hi hm]),zrz hm]
  grind
 have hX:∀ i m,i < k+1 -> m < k+1 -> isum (k+1) (fun l=>C i l * N l (if m < k then q m else p))=if i=m then D * t p else 0:=fun i m hi hm=>by
  by_cases hik:i=k
  ·subst hik
   rw [<- hSk]
   by_cases hmk:m < i
   ·rw [if_pos hmk,htq m hmk,if_neg (by omega),Int.mul_zero]
   ·rw [if_neg hmk,if_pos (by omega)]
  ·rw [<- hS i (by omega)]
   by_cases hmk:m < k
   ·rw [if_pos hmk, htq m hmk, Int.zero_mul, hP i m (by omega) hmk]
    split <;> grind
   ·rw [if_neg hmk,if_neg (by omega)]; grind
 obtain ⟨B,hB⟩:∃ B:Nat -> Nat -> Int,B=fun l m=>N l (if m < k then q m else p):=⟨_,rfl⟩
 have key:∀ i m,i < k+1 -> m < k+1 -> C i m * detZ (k+1) B=D * t p * adjZ (k+1) B i m:=fun i m hi hm=>by
  have e1:isum (k+1) (fun n=>isum (k+1) (fun l=>C i l * B l n) * adjZ (k+1) B n m)=D * t p * adjZ (k+1) B i m:=by
   rw [zra (g:=fun n=>(if i=n then D * t p else 0) * adjZ (k+1) B n m) (fun n hn=>by
    rw [hB]; show isum (k+1) (fun l=>C i l * N l (if n < k then q n else p)) * _=_
    rw [hX i n hi hn]),zsa hi]
  have e2:isum (k+1) (fun n=>isum (k+1) (fun l=>C i l * B l n) * adjZ (k+1) B n m)=isum (k+1) (fun l=>C i l * (if l=m then detZ (k+1) B else 0)):=by
   rw [zra (g:=fun n=>isum (k+1) (fun l=>C i l * B l n * adjZ (k+1) B n m)) (fun n _=>(zrv _ _ _).symm),zr6]
   refine zra fun l hl=>?_
   rw [<- zsZ B hl hm,<- zrc]
   exact zra fun n _=>by rw [Int.mul_assoc]
  rw [<- e1,e2,zrz hm]
 have hdt:t p=e * detZ (k+1) B:=by
  have h1:=key k k (by omega) (by omega)
  have h2:C k k=D * D:=by rw [hC]; show (if k=k then D * T k else _)=_; rw [if_pos rfl,hTk]
  have h3:adjZ (k+1) B k k=e * D:=by
   rw [zsO,hD,<- Int.mul_assoc,he,Int.one_mul,hB]
   exact zrp fun r c _ hc=>by show N r (if c < k then q c else p)=_; rw [if_pos hc]
  rw [h2,h3] at h1
  have h4:D * (D * (detZ (k+1) B))=D * (D * (t p * e)):=by grind
  have h5:=Int.eq_of_mul_eq_mul_left hD0 (Int.eq_of_mul_eq_mul_left hD0 h4)
  rw [h5,Int.mul_comm e,Int.mul_assoc,he,Int.mul_one]
 have hCA:∀ i m,i < k+1 -> m < k+1 -> C i m=D * (e * adjZ (k+1) B i m):=fun i m hi hm=>by
  have h1:=key i m hi hm
  have h2:t p * C i m=t p * (D * (e * adjZ (k+1) B i m)):=by
   have:t p * C i m=e * (C i m * detZ (k+1) B):=by rw [hdt]; grind
   rw [this,h1]; grind
  exact Int.eq_of_mul_eq_mul_left htp h2
 refine ⟨fun i l=>e * adjZ (k+1) B i l,by rw [hdt,hB],fun i hi j=>?_,fun j=>?_⟩
 ·rw [hS i hi j, <- zrc]
  exact zra fun l hl=>by rw [hCA i l (by omega) hl,Int.mul_assoc]
 ·have h1 := hSk j
  rw [zra (g:=fun l=>D * (e * adjZ (k+1) B k l * N l j)) (fun l hl=>by rw [hCA k l (by omega) hl,Int.mul_assoc]),zrc] at h1
  exact Int.eq_of_mul_eq_mul_left hD0 h1
def rsum (n:Nat) (f:Nat -> Rat):Rat:=match n with
 | 0=>0
 | n+1=>rsum n f+f n
theorem zq9 {n:Nat} {f g:Nat -> Rat} (h:∀ i,i < n -> f i=g i):rsum n f=rsum n g:=by
 induction n with
 | zero=>rfl
 | succ n ih=>unfold rsum; rw [ih (fun i hi=>h i (by omega)),h n (by omega)]
theorem zrg {n:Nat} {f:Nat -> Rat} (h:∀ i,i < n -> f i=0):rsum n f=0:=by
 induction n with
 | zero=>rfl
 | succ n ih=>unfold rsum; rw [ih (fun i hi=>h i (by omega)),h n (by omega),Rat.add_zero]
theorem zrR (n:Nat) (f g:Nat -> Rat):rsum n (fun i=>f i+g i)=rsum n f+rsum n g:=by
 induction n with
 | zero=>exact (Rat.add_zero 0).symm
 | succ n ih=>unfold rsum; rw [ih]; grind
theorem zrj (n:Nat) (f:Nat -> Rat) (a:Rat):rsum n (fun i=>a * f i)=a * rsum n f:=by
 induction n with
 | zero=>exact (Rat.mul_zero a).symm
 | succ n ih=>unfold rsum; rw [ih,Rat.mul_add]
theorem zrh (n:Nat) (f:Nat -> Rat) (a:Rat):rsum n (fun i=>f i * a)=rsum n f * a:=by
 rw [Rat.mul_comm,<- zrj]; exact zq9 fun i _=>Rat.mul_comm _ _
theorem zru (n m:Nat) (f:Nat -> Nat -> Rat):rsum n (fun i=>rsum m (fun j=>f i j))=rsum m (fun j=>rsum n (fun i=>f i j)):=by
 induction n with
 | zero=>exact (zrg (fun i _=>rfl)).symm
 | succ n ih=>
  show rsum n _+rsum m _=rsum m (fun j=>rsum n (fun i=>f i j)+f n j)
  rw [ih,zrR]
theorem zre {n m:Nat} (hm:m < n) (f:Nat -> Rat) (a:Rat):rsum n (fun i=>f i * (if i=m then a else 0))=f m * a:=by
 induction n with
 | zero=>omega
 | succ n ih=>
  unfold rsum
  by_cases h:n=m
  ·subst h
   rw [if_pos rfl,zrg (fun i hi=>by rw [if_neg (by omega),Rat.mul_zero]),Rat.zero_add]
  ·rw [if_neg h,ih (by omega),Rat.mul_zero,Rat.add_zero]
def InSp (n k:Nat) (E:Nat -> Nat -> Rat) (v:Nat -> Rat):Prop:=∃ c:Nat -> Rat,∀ j,j < n -> v j=rsum k (fun i=>c i * E i j)
theorem zsm {n k i:Nat} {E:Nat -> Nat -> Rat} (hi:i < k):InSp n k E (E i):=⟨fun m=>if m=i then 1 else 0,fun j _=>by
 have h:=zre hi (fun m=>E m j) 1
 rw [Rat.mul_one] at h
 rw [<- h]
 exact zq9 fun m _=>Rat.mul_comm _ _⟩
theorem zrl {n k m:Nat} {E F:Nat -> Nat -> Rat} (h:∀ i,i < k -> InSp n m F (E i)) {v:Nat -> Rat} (hv:InSp n k E v):InSp n m F v:=by
 obtain ⟨c,hc⟩:=hv
 have h2:∀ i,∃ d:Nat -> Rat,i < k -> ∀ j,j < n -> E i j=rsum m (fun l=>d l * F l j):=fun i=>by
  by_cases hi:i < k
  ·obtain ⟨d,hd⟩:=h i hi; exact ⟨d,fun _=>hd⟩
  ·exact ⟨fun _=>0,fun h3=>absurd h3 hi⟩
 refine ⟨fun l=>rsum k (fun i=>c i * (Classical.choose (h2 i)) l),fun j hj=>?_⟩
 rw [hc j hj,zq9 (g:=fun i=>rsum m (fun l=>c i * (Classical.choose (h2 i)) l * F l j)) (fun i hi=>by
  conv=>lhs; rw [Classical.choose_spec (h2 i) hi j hj,<- zrj]
  exact zq9 fun l _=>by rw [Rat.mul_assoc]),zru]
 exact zq9 fun l _=>zrh _ _ _
structure Rre (n k:Nat) (E:Nat -> Nat -> Rat) (p:Nat -> Nat):Prop where
 lt:∀ i,i < k -> p i < n
 inc:∀ i m,i < m -> m < k -> p i < p m
 one:∀ i m,i < k -> m < k -> E i (p m)=if i=m then 1 else 0
 low:∀ i,i < k -> ∀ j,j < p i -> E i j=0
theorem Rre.coef {n k:Nat} {E:Nat -> Nat -> Rat} {p:Nat -> Nat} (h:Rre n k E p) {v c:Nat -> Rat} (hv:∀ j,j < n -> v j=rsum k (fun i=>c i * E i j)) {m:Nat} (hm:m < k):c m=v (p m):=by
 rw [hv _ (h.lt m hm),zq9 (g:=fun i=>c i * (if i=m then 1 else 0)) (fun i hi=>by rw [h.one i m hi hm]),zre hm,Rat.mul_one]
theorem Rre.spans {n k:Nat} {E:Nat -> Nat -> Rat} {p:Nat -> Nat} (h:Rre n k E p) {v:Nat -> Rat} (hv:InSp n k E v):∀ j,j < n -> v j=rsum k (fun i=>v (p i) * E i j):=fun j hj=>by
 obtain ⟨c,hc⟩:=hv
 rw [hc j hj]
 exact zq9 fun i hi=>by rw [h.coef hc hi,hc _ (h.lt i hi)]
theorem zr5 {P:Nat -> Prop} [DecidablePred P]:∀ {n:Nat},P n -> ∃ m,m <= n/\P m/\∀ i,i < m -> ¬ P i
 | 0,h=>⟨0,by omega,h,fun i hi=>by omega⟩
 | n+1,h=>by
  by_cases hx:∃ i,i <= n/\P i
  ·obtain ⟨i, hi, hp⟩ := hx
   obtain ⟨m,hm,h1,h2⟩:=zr5 hp
   exact ⟨m,by omega,h1,h2⟩
  ·exact ⟨n+1,by omega,h,fun i hi hp=>hx ⟨i,by omega,hp⟩⟩
termination_by n=>n
decreasing_by omega
theorem Rre.lead {n k:Nat} {E:Nat -> Nat -> Rat} {p:Nat -> Nat} (h:Rre n k E p) {v:Nat -> Rat} (hv:InSp n k E v) {s:Nat} (hs:s < n) (h1:v s ≠ 0) (h0:∀ j,j < s -> v j=0):∃ m,m < k/\p m=s:=by
 have hsp:=h.spans hv
 have hex:∃ m,m < k/\v (p m) ≠ 0:=by
  apply Classical.byContradiction
  intro hno
  apply h1
  rw [hsp s hs]
  exact zrg fun i hi=>by
   have:v (p i)=0:=Classical.byContradiction fun hc=>hno ⟨i,hi,hc⟩
   rw [this,Rat.zero_mul]
 obtain ⟨m1,hm1,hv1⟩:=hex
 obtain ⟨m,hmle,⟨hm,hvm⟩,hmin⟩:=zr5 (P:=fun m=>m < k/\v (p m) ≠ 0) (n:=m1) ⟨hm1,hv1⟩
 refine ⟨m,hm,?_⟩
 rcases Nat.lt_trichotomy (p m) s with h2 | h2 | h2
 ·exact absurd (h0 _ h2) hvm
 ·exact h2
 ·exfalso; apply h1
  rw [hsp s hs]
  exact zrg fun i hi=>by
   rcases Nat.lt_or_ge i m with h3 | h3
   ·have : v (p i) = 0 := Classical.byContradiction fun hc => hmin i h3 ⟨hi, hc⟩
    rw [this,Rat.zero_mul]
   ·have h4:p m <= p i:=by
     rcases Nat.lt_or_ge m i with h5 | h5
     ·exact Nat.le_of_lt (h.inc m i h5 hi)
     ·rw [show i=m by omega]; exact zv _
    rw [h.low i hi s (by omega),Rat.mul_zero]
theorem ztv {k k':Nat} {p p':Nat -> Nat} (a:∀ i m,i < m -> m < k -> p i < p m) (a':∀ i m,i < m -> m < k' -> p' i < p' m) (h:∀ i,i < k -> ∃ m,m < k'/\p' m=p i) (h':∀ i,i < k' -> ∃ m,m < k/\p m=p' i):k=k'/\∀ i,i < k -> p i=p' i:=by
 have key:∀ i,(i < k -> i < k'/\p i=p' i)/\(i < k' -> i < k/\p i=p' i):=by
  intro i
  induction i using Nat.strongRecOn with
  | _ i ih=>
   have h1:i < k -> i < k'/\p' i <= p i:=fun hi=>by
    obtain ⟨m,hm,e⟩:=h i hi
    have:i <= m:=by
     rcases Nat.lt_or_ge m i with h2 | h2
     ·have h3 := ((ih m h2).2 hm).2
      have h4:=a m i h2 hi
      omega
     ·exact h2
    refine ⟨by omega,?_⟩
    rcases Nat.lt_or_ge i m with h2 | h2
    ·have:=a' i m h2 hm; omega
    ·have e2 : i = m := Nat.le_antisymm this h2
     subst e2; omega
   have h2:i < k' -> i < k/\p i <= p' i:=fun hi=>by
    obtain ⟨m,hm,e⟩:=h' i hi
    have:i <= m:=by
     rcases Nat.lt_or_ge m i with h2 | h2
     ·have h3 := ((ih m h2).1 hm).2
      have h4:=a' m i h2 hi
      omega
     ·exact h2
    refine ⟨by omega,?_⟩
    rcases Nat.lt_or_ge i m with h2 | h2
    ·have:=a i m h2 hm; omega
    ·have e2 : i = m := Nat.le_antisymm this h2
     subst e2; omega
   exact ⟨fun hi=>⟨(h1 hi).1,by have:=(h1 hi).2; have:=(h2 (h1 hi).1).2; omega⟩,fun hi=>⟨(h2 hi).1,by have:=(h2 hi).2; have:=(h1 (h2 hi).1).2; omega⟩⟩
 refine ⟨?_,fun i hi=>((key i).1 hi).2⟩
 rcases Nat.lt_trichotomy k k' with h1 | h1 | h1
 ·have:=((key k).2 h1).1; omega
 ·exact h1
 ·have:=((key k').1 h1).1; omega
theorem Rre.unique {n k k':Nat} {E E':Nat -> Nat -> Rat} {p p':Nat -> Nat} (h:Rre n k E p) (h':Rre n k' E' p') (s:∀ i,i < k -> InSp n k' E' (E i)) (s':∀ i,i < k' -> InSp n k E (E' i)):
  k=k'/\(∀ i,i < k -> p i=p' i)/\∀ i,i < k -> ∀ j,j < n -> E i j=E' i j:=by
 obtain ⟨hk,hp⟩:=ztv h.inc h'.inc (fun i hi=>h'.lead (s i hi) (h.lt i hi) (by rw [h.one i i hi hi,if_pos rfl]; decide) (fun j hj=>h.low i hi j hj)) (fun i hi=>h.lead (s' i hi) (h'.lt i hi) (by rw [h'.one i i hi hi,if_pos rfl]; decide) (fun j hj=>h'.low i hi j hj))
 refine ⟨hk,hp,fun i hi j hj=>?_⟩
 subst hk
 rw [h'.spans (s i hi) j hj,zq9 (g:=fun m=>E' m j * (if m=i then 1 else 0)) (fun m hm=>by
  rw [<- hp m hm,h.one i m hi hm,Rat.mul_comm]
  by_cases e:i=m
  ·rw [if_pos e,if_pos e.symm]
  ·rw [if_neg e,if_neg (fun e2=>e e2.symm)]),zre hi,Rat.mul_one]
def Nul (n m:Nat) (A:Nat -> Nat -> Rat) (x:Nat -> Rat):Prop:=∀ i,i < m -> rsum n (fun j=>A i j * x j)=0
structure Split (n k r:Nat) (p f:Nat -> Nat):Prop where
 plt:∀ i,i < k -> p i < n
 flt:∀ l,l < r -> f l < n
 pinj:∀ i m,i < k -> m < k -> p i=p m -> i=m
 finj:∀ i m,i < r -> m < r -> f i=f m -> i=m
 dis:∀ i l,i < k -> l < r -> p i ≠ f l
 cov:∀ j,j < n -> (∃ i,i < k/\p i=j) ∨ ∃ l,l < r/\f l=j
structure Free (k r:Nat) (E:Nat -> Nat -> Rat) (p f:Nat -> Nat) (V:Nat -> Nat -> Rat):Prop where
 at_f:∀ l m,l < r -> m < r -> V l (f m)=if l=m then 1 else 0
 at_p:∀ l i,l < r -> i < k -> V l (p i) = - E i (f l)
def rowZ (rows:List (List Int)) (i j:Nat):Int:=(rows.getD i []).getD j 0
theorem zrY {l:List Int} {j:Nat} (h:l.length <= j):l.getD j 0=0:=by
 rw [List.getD_eq_getElem?_getD,List.getElem?_eq_none h]; rfl
theorem zsG {D x:Int} (h:D ≠ 0):flr (D * x) D=x:=by
 rcases Int.lt_or_gt_of_ne h with h1 | h1
 ·exact flr_of (r:=0) (by omega) (.inr ⟨h1,Int.le_refl _⟩)
 ·exact flr_of (r:=0) (by omega) (.inl ⟨Int.le_refl _,h1⟩)
theorem zry {D x y:Int} (h:D ≠ 0) (e:y=D * x):flr y D=x:=by rw [e]; exact zsG h
theorem zsW {row prow:List Int} {P M B:Int} {m:Nat} (h1:row.length=m) (h2:prow.length=m) (hB:B ≠ 0) (j:Nat):(zcQ row prow P M B m).getD j 0=flr (row.getD j 0 * P - prow.getD j 0 * M) B:=by
 by_cases h:j < m
 ·unfold zcQ
  rw [List.getD_eq_getElem?_getD,List.getElem?_map,List.getElem?_range h]; rfl
 ·rw [zrY (l := zcQ row prow P M B m) (by rw [zcM]; omega), zrY (l := row) (by omega), zrY (l := prow) (by omega)]
  exact (zry (x:=0) hB (by grind)).symm
def swI (a b i:Nat):Nat:=if b=i then a else if a=i then b else i
theorem zsA {l:List (List Int)} {a b:Nat} (ha:a < l.length) (hb:b < l.length) (i j:Nat):rowZ (swapR l a b) i j=rowZ l (swI a b i) j:=by
 have e:(swapR l a b).getD i []=l.getD (swI a b i) []:=by
  rw [List.getD_eq_getElem?_getD,zjD ha hb,List.getD_eq_getElem?_getD]
  unfold swI
  split
  ·rfl
  ·split <;> rfl
 unfold rowZ
 rw [e]
theorem ztl {a b i:Nat} (h:i < a) (hb:a <= b):swI a b i=i:=by
 unfold swI; rw [if_neg (by omega),if_neg (by omega)]
theorem ztm {a b i:Nat} (h:a <= i) (hb:a <= b):a <= swI a b i:=by
 unfold swI; split
 ·omega
 ·split <;> omega
theorem swI_r {a b i r:Nat} (h:i < r) (ha:a < r) (hb:b < r):swI a b i < r:=by
 unfold swI; split
 ·omega
 ·split <;> omega
theorem zta {a b i:Nat}:swI a b (swI a b i)=i:=by
 unfold swI
 by_cases h1:b=i
 ·rw [if_pos h1]
  by_cases h2:b=a
  ·rw [if_pos h2]; omega
  ·rw [if_neg h2,if_pos rfl]; exact h1
 ·rw [if_neg h1]
  by_cases h2:a=i
  ·rw [if_pos h2,if_pos rfl]; exact h2
  ·rw [if_neg h2,if_neg h1,if_neg h2]
theorem zrO {zss:List (List Int)} {p col m i:Nat} {B:Int} (hm:∀ zs ∈ zss,zs.length=m) (hp:p < zss.length) (hi:i < zss.length) (hB:B ≠ 0) (j:Nat):
  rowZ (zcR zss p col m B) i j=if i=p then rowZ zss p j else flr (rowZ zss i j * rowZ zss p col - rowZ zss p j * rowZ zss i col) B:=by
 have e:=za3 (d:=[]) (ziC (col:=col) (m:=m) (p:=p) (B:=B) hi)
 unfold rowZ
 rw [e]
 clear e
 by_cases e:i=p
 ·rw [if_pos e,if_pos e]
 ·rw [if_neg e,if_neg e,zsW (hm _ (zcc hi)) (hm _ (zcc hp)) hB]
theorem zrH (n:Nat) (f:Nat -> Int):((isum n f:Int):Rat)=rsum n (fun i=>(f i:Rat)):=by
 induction n with
 | zero=>rfl
 | succ n ih=>unfold isum rsum; rw [Rat.intCast_add,ih]
theorem ztg {P D z r t c:Rat} (h:P ≠ 0) (e:D * z=r * P - t * c):r=z * (D / P)+t * (c / P):=by
 have:r=(D * z+t * c) / P:=by rw [e]; grind
 rw [this]; grind
theorem zth {D x n S:Rat} (h:D ≠ 0) (e:x=D * n - S):n=S * (1 / D)+1 / D * x:=by rw [e]; grind
theorem ztq {D a b:Rat} (h:D ≠ 0):a * b=a * D * (b / D):=by grind
theorem zts {D a b:Rat}:a * (b / D)=a * b * (1 / D):=by grind
theorem zsC {D a b:Rat}:a / D * b=a * b * (1 / D):=by grind
theorem rat_c {D n:Rat} (h:D ≠ 0):n=D * n * (1 / D):=by grind
theorem zsU {D:Rat} (h:D ≠ 0):D / D=1:=by grind
theorem rat_z {D:Rat}:0 / D=0:=by grind
theorem ztr {D a:Rat}:a / D=a * (1 / D):=by grind
theorem zr2 {z:Int} (h:z ≠ 0):(z:Rat) ≠ 0:=fun e=>h (by exact_mod_cast e)
structure EInv (n r c:Nat) (M:Nat -> Nat -> Int) (s:ElS) (N A:Nat -> Nat -> Int) (q:Nat -> Nat) (e:Int):Prop where
 rl:s.rows.length=r
 ml:∀ zs ∈ s.rows,zs.length=n
 kr:s.piv.length <= r
 piv:∀ m,m < s.piv.length -> s.piv[m]?=some (q m:Int)
 qc:∀ m,m < s.piv.length -> q m < c
 qi:∀ i m,i < m -> m < s.piv.length -> q i < q m
 ee:e * e=1
 det:s.fac=e * detZ s.piv.length (fun l m=>N l (q m))
 f0:s.fac ≠ 0
 comb:∀ i,i < s.piv.length -> ∀ j,rowZ s.rows i j=isum s.piv.length (fun l=>A i l * N l j)
 at_q:∀ i m,i < s.piv.length -> m < s.piv.length -> rowZ s.rows i (q m)=if i=m then s.fac else 0
 rest:∀ i,s.piv.length <= i -> i < r -> ∀ j,rowZ s.rows i j=s.fac * N i j - isum s.piv.length (fun l=>N i (q l) * rowZ s.rows l j)
 zero:∀ i,s.piv.length <= i -> i < r -> ∀ j,j < c -> rowZ s.rows i j=0
 low:∀ i,i < s.piv.length -> ∀ j,j < q i -> rowZ s.rows i j=0
 sp:∀ i,i < s.piv.length -> InSp n s.piv.length (fun l j=>(rowZ s.rows l j:Rat)) (fun j=>(N i j:Rat))
 tow:∀ i,i < r -> ∃ l,l < r/\N l=M i
 fro:∀ l,l < r -> ∃ i,i < r/\N l=M i
theorem zsx {rows:List (List Int)} {next col:Nat} (h:zcO rows next col = -1):∀ i,next <= i -> i < rows.length -> rowZ rows i col=0:=fun i hi hl=>by
 unfold zcO at h
 rcases zdy ((rows.drop next).map fun (row:List Int)=>decide (row.getD col 0 ≠ 0)) with ⟨_,h2⟩ | ⟨k,h2,_⟩
 ·have h3:=h2 (i - next) (decide ((rows.getD i []).getD col 0 ≠ 0)) (by
   rw [List.getElem?_map,List.getElem?_drop,show next+(i - next)=i by omega,zg hl,za3 (zg hl)]; rfl)
  unfold rowZ
  simpa using h3
 ·omega
theorem EInv.step {n r c:Nat} {M:Nat -> Nat -> Int} {s:ElS} {N A:Nat -> Nat -> Int} {q:Nat -> Nat} {e:Int} (h:EInv n r c M s N A q e):
  ∃ N' A' q' , EInv n r (c+1) M (zdV n s c) N' A' q' e:=by
 rcases zgM s.rows s.piv.length c with hn | ⟨f,hf,hlt,hne⟩
 ·rw [zdB hn]
  have hz:=zsx hn
  exact ⟨N,A,q,⟨h.rl,h.ml,h.kr,h.piv,fun m hm=>by have:=h.qc m hm; omega,h.qi,h.ee,h.det,h.f0,h.comb,h.at_q,h.rest,fun i hi hr j hj=>by
   by_cases e:j=c
   ·rw [e]; exact hz i hi (by rw [h.rl]; exact hr)
   ·exact h.zero i hi hr j (by omega),h.low,h.sp,h.tow,h.fro⟩⟩
 ·rw [zfT hf]
  obtain ⟨rl,ml,kr,piv,qc,qi,ee,det,f0,comb,at_q,rest,zero,low,sp,tow,fro⟩:=h
  obtain ⟨rows,pv,D⟩:=s
  dsimp only at *
  clear hf
  obtain ⟨k,hk⟩:∃ k,pv.length=k:=⟨_,rfl⟩
  rw [hk] at kr piv qc qi det comb at_q rest zero low sp hlt hne
  have hpk:k < rows.length:=by omega
  have hkr:k < r:=by omega
  obtain ⟨S,hS⟩:∃ S,swapR rows k (k+f)=S:=⟨_,rfl⟩
  have hSl:S.length=r:=by rw [<- hS,zcT]; exact rl
  have hSm:∀ zs ∈ S,zs.length=n:=fun zs hz=>ml zs (by
   rw [<- hS] at hz
   obtain ⟨i,hi⟩:=List.mem_iff_getElem?.1 hz
   rw [zjD hpk hlt] at hi
   split at hi
   ·exact zk hi
   ·split at hi <;> exact zk hi)
  obtain ⟨R,hR⟩:∃ R,R=rowZ rows:=⟨_,rfl⟩
  obtain ⟨W,hW⟩:∃ W:Nat -> Nat,W=swI k (k+f):=⟨_,rfl⟩
  have hRS:∀ i j,rowZ S i j=R (W i) j:=fun i j=>by rw [<- hS,zsA hpk hlt,hR,hW]
  have hWk:∀ i,i < k -> W i=i:=fun i hi=>by rw [hW]; exact ztl hi (by omega)
  have hWg:∀ i,k <= i -> k <= W i:=fun i hi=>by rw [hW]; exact ztm hi (by omega)
  have hWr:∀ i,i < r -> W i < r:=fun i hi=>by rw [hW]; exact swI_r hi hkr (by omega)
  have hWW:∀ i,W (W i)=i:=fun i=>by rw [hW]; exact zta
  obtain ⟨N',hN'⟩:∃ N',N'=fun i=>N (W i):=⟨_,rfl⟩
  have hNk:∀ i,i < k -> N' i=N i:=fun i hi=>by rw [hN']; show N (W i)=_; rw [hWk i hi]
  obtain ⟨t,ht⟩:∃ t,t=R (W k):=⟨_,rfl⟩
  obtain ⟨P,hP⟩:∃ P,P=t c:=⟨_,rfl⟩
  have hPe:(S.getD k []).getD c 0=P:=by
   show rowZ S k c=P
   rw [hRS,hP,ht]
  have hP0:P ≠ 0:=by
   have e1:P=rowZ rows (k+f) c:=by
    rw [hP,ht,hR,hW]; unfold swI
    by_cases e:k+f=k
    ·rw [if_pos e,e]
    ·rw [if_neg e,if_pos rfl]
   rw [e1]; exact hne
  have hRr:∀ i,k <= i -> i < r -> ∀ j,R (W i) j=D * N' i j - isum k (fun l=>N' i (q l) * R l j):=fun i hi hir j=>by
   rw [hR,hN']; exact rest (W i) (hWg i hi) (hWr i hir) j
  have hRz:∀ i,k <= i -> i < r -> ∀ j,j < c -> R (W i) j=0:=fun i hi hir j hj=>by
   rw [hR]; exact zero (W i) (hWg i hi) (hWr i hir) j hj
  have htz:∀ j,j < c -> t j=0:=fun j hj=>by rw [ht]; exact hRz k (zv _) hkr j hj
  have hat:∀ i m,i < k -> m < k -> R i (q m)=if i=m then D else 0:=by rw [hR]; exact at_q
  have hlow:∀ i,i < k -> ∀ j,j < q i -> R i j=0:=by rw [hR]; exact low
  have hcomb:∀ i,i < k -> ∀ j,R i j=isum k (fun l=>A i l * N' l j):=fun i hi j=>by
   rw [hR,comb i hi j]; exact zra fun l hl=>by rw [hNk l hl]
  obtain ⟨A',hb1,hb2,hb3⟩:=ztj (k:=k) (N:=N') (A:=A) (R:=R) (q:=q) (D:=D) (e:=e) (p:=c) (t:=t) ee
   (by rw [det]; congr 1; exact zrp fun l m hl _=>by rw [hNk l hl]) f0 hcomb hat
   (fun j=>by rw [ht]; exact hRr k (zv _) hkr j) (by rw [<- hP]; exact hP0)
  rw [<- hP] at hb1 hb2
  obtain ⟨q',hq'⟩:∃ q':Nat -> Nat,q'=fun m=>if m < k then q m else c:=⟨_,rfl⟩
  have hqk:∀ m,m < k -> q' m=q m:=fun m hm=>by rw [hq']; exact if_pos hm
  have hqc:q' k=c:=by rw [hq']; exact if_neg (by omega)
  obtain ⟨Z,hZ⟩:∃ Z,Z=rowZ (zcR S k c n D):=⟨_,rfl⟩
  have hZk:∀ j,Z k j=t j:=fun j=>by
   rw [hZ,zrO hSm (by omega) (by omega) f0,if_pos rfl,hRS,ht]
  have hZi:∀ i,i < r -> i ≠ k -> ∀ j,Z i j=flr (R (W i) j * P - t j * R (W i) c) D:=fun i hi hik j=>by
   rw [hZ,zrO hSm (by omega) (by omega) f0,if_neg hik,hRS,hRS,hRS,hRS,<- ht,<- hP]
  have hZl:∀ i,i < k -> ∀ j,Z i j=isum (k+1) (fun l=>A' i l * N' l j):=fun i hi j=>by
   rw [hZi i (by omega) (by omega) j,hWk i hi]
   exact zry f0 (hb2 i hi j)
  have hZD:∀ i,i < k -> ∀ j,D * Z i j=R i j * P - t j * R i c:=fun i hi j=>by
   rw [hZl i hi j]; exact (hb2 i hi j).symm
  have hZg:∀ i,k < i -> i < r -> ∀ j,Z i j=P * N' i j - isum (k+1) (fun l=>N' i (q' l) * Z l j):=fun i hi hir j=>by
   rw [hZi i hir (by omega) j]
   refine zry f0 ?_
   have e1:isum (k+1) (fun l=>N' i (q' l) * Z l j)=isum k (fun l=>N' i (q l) * Z l j)+N' i c * t j:=by
    show isum k _+N' i (q' k) * Z k j=_
    rw [hqc,hZk]
    congr 1
    exact zra fun l hl=>by rw [hqk l hl]
   have e2:D * isum k (fun l=>N' i (q l) * Z l j)=isum k (fun l=>N' i (q l) * R l j) * P - t j * isum k (fun l=>N' i (q l) * R l c):=by
    rw [<- zrc,<- zrv,<- zrc,<- zsl]
    exact zra fun l hl=>by
     have:=hZD l hl j
     grind
   rw [e1,hRr i (by omega) hir j,hRr i (by omega) hir c]
   grind
  have hlen:(pv ++ [(c:Int)]).length=k+1:=by simp [hk]
  have sp0:∀ i,i < k -> InSp n k (fun l j=>(R l j:Rat)) (fun j=>(N' i j:Rat)):=fun i hi=>by
   rw [hR,hNk i hi]; exact sp i hi
  have hPr:(P:Rat) ≠ 0:=zr2 hP0
  have hDr:(D:Rat) ≠ 0:=zr2 f0
  have hold:∀ l,l < k -> InSp n (k+1) (fun l j=>(Z l j:Rat)) (fun j=>(R l j:Rat)):=fun l hl=>by
   refine ⟨fun m=>(if m=l then (D:Rat) / P else 0)+(if m=k then (R l c:Rat) / P else 0),fun j _=>?_⟩
   rw [zq9 (g:=fun m=>(Z m j:Rat) * (if m=l then (D:Rat) / P else 0)+(Z m j:Rat) * (if m=k then (R l c:Rat) / P else 0)) (fun m _=>by rw [Rat.mul_comm,Rat.mul_add]),zrR,zre (by omega),zre (by omega),hZk]
   have e1:=hZD l hl j
   have e2:(D:Rat) * Z l j=R l j * P - t j * R l c:=by
    have:=congrArg (fun z:Int=>(z:Rat)) e1
    simpa only [Rat.intCast_mul,Rat.intCast_sub] using this
   exact ztg hPr e2
  have hZrest:∀ i,k+1 <= i -> i < r -> ∀ j,j < c+1 -> Z i j=0:=fun i hi hir j hj=>by
   rw [hZi i hir (by omega) j]
   refine zry f0 ?_
   by_cases e:j=c
   ·rw [e,<- hP]; grind
   ·rw [hRz i (by omega) hir j (by omega),htz j (by omega)]; grind
  exact ⟨N',A',q',{
   rl:=by simp only [zcR,List.length_map,List.length_range]; rw [hk,hS]; exact hSl
   ml:=fun zs hz=>by
    dsimp only at hz
    rw [hk,hS] at hz
    obtain ⟨i,hi⟩:=List.mem_iff_getElem?.1 hz
    have hir:i < S.length:=by
     have:=(zh.1 hi).1
     simpa [zcR] using this
    rw [ziC hir] at hi
    obtain rfl:=zl hi
    split
    ·exact hSm _ (zcc (by omega))
    ·exact zcM
   kr:=by dsimp only; rw [hlen]; omega
   piv:=fun m hm=>by
    dsimp only at hm ⊢
    rw [hlen] at hm
    by_cases e:m < k
    ·rw [List.getElem?_append_left (by omega),piv m e,hqk m e]
    ·obtain rfl : m = k := by omega
     rw [List.getElem?_append_right (by omega),hk,hqc]; simp
   qc:=fun m hm=>by
    dsimp only at hm
    rw [hlen] at hm
    by_cases e:m < k
    ·rw [hqk m e]; have:=qc m e; omega
    ·obtain rfl : m = k := by omega
     rw [hqc]; omega
   qi:=fun i m him hm=>by
    dsimp only at hm
    rw [hlen] at hm
    by_cases e:m < k
    ·rw [hqk m e,hqk i (by omega)]; exact qi i m him e
    ·obtain rfl : m = k := by omega
     rw [hqc,hqk i him]; exact qc i him
   ee:=ee
   det:=by
    dsimp only
    rw [hlen,hk,hS,hPe,hb1,hq']
   f0:=by dsimp only; rw [hk,hS,hPe]; exact hP0
   comb:=fun i hi j=>by
    dsimp only at hi ⊢
    rw [hlen] at hi ⊢
    rw [hk,hS,<- hZ]
    by_cases e:i < k
    ·exact hZl i e j
    ·obtain rfl : i = k := by omega
     rw [hZk,hb3 j]
   at_q:=fun i m hi hm=>by
    dsimp only at hi hm ⊢
    rw [hlen] at hi hm
    rw [hk,hS,<- hZ,hPe]
    by_cases ei:i < k
    ·refine Int.eq_of_mul_eq_mul_left f0 ?_
     rw [hZD i ei]
     by_cases em:m < k
     ·rw [hqk m em, htz _ (qc m em), hat i m ei em]
      split <;> grind
     ·obtain rfl : m = k := by omega
      rw [hqc,if_neg (by omega),<- hP]; grind
    ·obtain rfl : i = k := by omega
     rw [hZk]
     by_cases em:m < i
     ·rw [hqk m em,htz _ (qc m em),if_neg (by omega)]
     ·obtain rfl : m = i := by omega
      rw [hqc,if_pos rfl,hP]
   rest:=fun i hi hir j=>by
    dsimp only at hi ⊢
    rw [hlen] at hi ⊢
    rw [hk,hS,<- hZ,hPe]
    exact hZg i (by omega) hir j
   zero:=fun i hi hir j hj=>by
    dsimp only at hi ⊢
    rw [hlen] at hi
    rw [hk,hS,<- hZ]
    exact hZrest i hi hir j hj
   low:=fun i hi j hj=>by
    dsimp only at hi ⊢
    rw [hlen] at hi
    rw [hk,hS,<- hZ]
    by_cases ei:i < k
    ·rw [hqk i ei] at hj
     refine Int.eq_of_mul_eq_mul_left f0 ?_
     have:=qc i ei
     rw [hZD i ei,hlow i ei j hj,htz j (by omega)]; grind
    ·obtain rfl : i = k := by omega
     rw [hqc] at hj
     rw [hZk,htz j hj]
   sp:=fun i hi=>by
    dsimp only at hi ⊢
    rw [hlen] at hi ⊢
    rw [hk,hS,<- hZ]
    by_cases ei:i < k
    ·exact zrl hold (sp0 i ei)
    ·obtain rfl : i = k := by omega
     have e0:InSp n (i+1) (fun l j=>(R l j:Rat)) (fun j=>(N' i j:Rat)) -> True:=fun _=>trivial
     obtain ⟨E,hE⟩:∃ E:Nat -> Nat -> Rat,E=fun l j=>if l < i then (R l j:Rat) else (t j:Rat):=⟨_,rfl⟩
     have hEs:∀ l,l < i+1 -> InSp n (i+1) (fun l j=>(Z l j:Rat)) (E l):=fun l hl=>by
      by_cases e:l < i
      ·rw [hE]; simp only [if_pos e]; exact hold l e
      ·obtain rfl : l = i := by omega
       have:E l=fun j=>(Z l j:Rat):=by
        rw [hE]; funext j; show (if l < l then _ else _)=_
        rw [if_neg (by omega),hZk]
       rw [this]; exact zsm (E:=fun l j=>(Z l j:Rat)) hl
     refine zrl hEs ⟨fun l=>if l < i then (N' i (q l):Rat) / D else 1 / D,fun j _=>?_⟩
     show _=rsum i _+(if i < i then _ else _) * E i j
     rw [if_neg (by omega),zq9 (n:=i) (g:=fun l=>(N' i (q l) * R l j:Rat) * (1 / D)) (fun l hl=>by
      show (if l < i then (N' i (q l):Rat) / D else 1 / D) * E l j=_
      rw [if_pos hl,show E l j=(R l j:Rat) by rw [hE]; exact if_pos hl]; exact zsC),zrh,show E i j=(t j:Rat) by rw [hE]; exact if_neg (by omega)]
     have e1:t j=D * N' i j - isum i (fun l=>N' i (q l) * R l j):=by rw [ht]; exact hRr i (zv _) hkr j
     have e2:(t j:Rat)=D * N' i j - rsum i (fun l=>(N' i (q l) * R l j:Rat)):=by
      rw [e1,Rat.intCast_sub,Rat.intCast_mul,zrH]
      congr 1
      exact zq9 fun l _=>by rw [Rat.intCast_mul]
     exact zth hDr e2
   tow:=fun i hi=>by
    obtain ⟨l,hl,e⟩:=tow i hi
    exact ⟨W l,hWr l hl,by rw [hN']; show N (W (W l))=_; rw [hWW,e]⟩
   fro:=fun l hl=>by
    obtain ⟨i,hi,e⟩:=fro (W l) (hWr l hl)
    exact ⟨i,hi,by rw [hN']; exact e⟩ }⟩
theorem EInv.go {n r:Nat} {rows:List (List Int)} (hr:rows.length=r) (hm:∀ zs ∈ rows,zs.length=n):∀ c,∃ N A q,EInv n r c (rowZ rows) (elGo n rows c) N A q 1
 | 0=>⟨rowZ rows,fun _ _=>0,fun _=>0,{
   rl:=hr,ml:=hm,kr:=Nat.zero_le _,piv:=fun m hm=>(by cases hm),qc:=fun m hm=>(by cases hm),qi:=fun i m _ hm=>(by cases hm),ee:=rfl,det:=(by show (1:Int)=1 * detZ 0 _; rfl),f0:=(by show (1:Int) ≠ 0; decide)
   comb:=fun i hi=>(by cases hi),at_q:=fun i m hi=>(by cases hi)
   rest:=fun i _ _ j=>(by show rowZ rows i j=1 * rowZ rows i j - isum 0 _; show _=1 * rowZ rows i j - 0; omega)
   zero:=fun i _ _ j hj=>(by cases hj),low:=fun i hi=>(by cases hi),sp:=fun i hi=>(by cases hi),tow:=fun i hi=>⟨i,hi,rfl⟩,fro:=fun i hi=>⟨i,hi,rfl⟩ }⟩
 | c+1=>by
  obtain ⟨N,A,q,h⟩:=EInv.go hr hm c
  exact h.step
def elE (s:ElS) (i j:Nat):Rat:=(rowZ s.rows i j:Rat) / s.fac
def elP (s:ElS) (i:Nat):Nat:=(s.piv.getD i 0).toNat
theorem ztu {n r:Nat} {rows:List (List Int)} (hr:rows.length=r) (hm:∀ zs ∈ rows,zs.length=n):
  Rre n (elGo n rows n).piv.length (elE (elGo n rows n)) (elP (elGo n rows n))/\(∀ i,i < (elGo n rows n).piv.length -> InSp n r (fun i j=>(rowZ rows i j:Rat)) (elE (elGo n rows n) i)) /\
  (∀ i,i < r -> InSp n (elGo n rows n).piv.length (elE (elGo n rows n)) (fun j=>(rowZ rows i j:Rat)))/\(∀ i,i < (elGo n rows n).piv.length -> ((elGo n rows n).piv.getD i 0=(elP (elGo n rows n) i:Int)))/\(elGo n rows n).fac ≠ 0/\(elGo n rows n).piv.length <= r:=by
 obtain ⟨N,A,q,h⟩:=EInv.go hr hm n
 obtain ⟨s,hs⟩:∃ s,elGo n rows n=s:=⟨_,rfl⟩
 rw [hs] at h ⊢
 have hq:∀ i,i < s.piv.length -> s.piv.getD i 0=(q i:Int):=fun i hi=>za3 (h.piv i hi)
 have hp:∀ i,i < s.piv.length -> elP s i=q i:=fun i hi=>by unfold elP; rw [hq i hi]; rfl
 have hD:(s.fac:Rat) ≠ 0:=zr2 h.f0
 have hN:∀ i,i < r -> InSp n s.piv.length (elE s) (fun j=>(N i j:Rat)):=fun i hi=>by
  by_cases e:i < s.piv.length
  ·obtain ⟨c, hc⟩ := h.sp i e
   exact ⟨fun l=>c l * s.fac,fun j hj=>by
    rw [hc j hj]
    exact zq9 fun l _=>ztq hD⟩
  ·refine ⟨fun l => (N i (q l) : Rat), fun j hj => ?_⟩
   have e1:=h.rest i (by omega) hi j
   rw [h.zero i (by omega) hi j hj] at e1
   have e2:s.fac * N i j=isum s.piv.length (fun l=>N i (q l) * rowZ s.rows l j):=by omega
   have e3:(s.fac:Rat) * N i j=rsum s.piv.length (fun l=>(N i (q l) * rowZ s.rows l j:Rat)):=by
    rw [<- Rat.intCast_mul,e2,zrH]
    exact zq9 fun l _=>by rw [Rat.intCast_mul]
   have e4:rsum s.piv.length (fun l=>(N i (q l):Rat) * elE s l j)=rsum s.piv.length (fun l=>(N i (q l) * rowZ s.rows l j:Rat)) * (1 / s.fac):=by
    rw [<- zrh]; exact zq9 fun l _=>zts
   show (N i j:Rat)=rsum s.piv.length (fun l=>(N i (q l):Rat) * elE s l j)
   rw [e4,<- e3]
   exact rat_c hD
 refine ⟨⟨fun i hi=>by rw [hp i hi]; exact h.qc i hi,fun i m him hm=>by rw [hp i (by omega),hp m hm]; exact h.qi i m him hm,fun i m hi hm=>?_,fun i hi j hj=>?_⟩,fun i hi=>?_,fun i hi=>?_,fun i hi=>by rw [hp i hi]; exact hq i hi,h.f0,h.kr⟩
 ·unfold elE
  rw [hp m hm,h.at_q i m hi hm]
  split
  ·exact zsU hD
  ·exact rat_z
 ·rw [hp i hi] at hj
  unfold elE
  rw [h.low i hi j hj]; exact rat_z
 ·have hrow:∀ l,l < s.piv.length -> InSp n r (fun i j=>(rowZ rows i j:Rat)) (fun j=>(N l j:Rat)):=fun l hl=>by
   obtain ⟨m,hm,e⟩:=h.fro l (by have:=h.kr; omega)
   rw [e]; exact zsm (E:=fun i j=>(rowZ rows i j:Rat)) hm
  refine zrl hrow ⟨fun l=>(A i l:Rat) / s.fac,fun j _=>?_⟩
  have e4:rsum s.piv.length (fun l=>(A i l:Rat) / s.fac * (N l j:Rat))=rsum s.piv.length (fun l=>((A i l * N l j:Int):Rat)) * (1 / s.fac):=by
   rw [<- zrh]; exact zq9 fun l _=>by rw [Rat.intCast_mul]; exact zsC
  show elE s i j=rsum s.piv.length (fun l=>(A i l:Rat) / s.fac * (N l j:Rat))
  unfold elE
  rw [e4,h.comb i hi j,zrH]
  exact ztr
 ·obtain ⟨l, hl, e⟩ := h.tow i hi
  rw [<- e]; exact hN l hl
def skipR (a j:Nat):Nat:=if j < a then j else j+1
def zr8 (a j:Nat):Nat:=if j < a then j else j - 1
theorem zr7 (a j:Nat):zr8 a (skipR a j)=j:=by
 unfold zr8 skipR
 by_cases h:j < a
 ·rw [if_pos h,if_pos h]
 ·rw [if_neg h,if_neg (by omega)]; omega
theorem ztd (a j:Nat):skipR a j ≠ a:=by unfold skipR; split <;> omega
theorem zte {a j n:Nat} (h:j < n):skipR a j < n+1:=by unfold skipR; split <;> omega
theorem zr1 {a:Nat} (f:Nat -> Rat):∀ n,a <= n -> rsum (n+1) f=rsum n (fun j=>f (skipR a j))+f a
 | 0,h=>by
  obtain rfl:a=0:=by omega
  rfl
 | n+1,h=>by
  by_cases e:a=n+1
  ·show rsum (n + 1) f + f (n + 1) = _
   rw [e]; congr 1
   exact zq9 fun j hj=>by unfold skipR; rw [if_pos (by omega)]
  ·have ih := zr1 f n (a := a) (by omega)
   show rsum (n+1) f+f (n+1)=rsum n (fun j=>f (skipR a j))+f (skipR a n)+f a
   rw [ih,show skipR a n=n+1 by unfold skipR; rw [if_neg (by omega)]]
   grind
theorem zrP:∀ (k n:Nat) (A:Nat -> Nat -> Rat),k < n -> ∃ x,Nul n k A x/\∃ j,j < n/\x j ≠ 0
 | 0,n,A,h=>⟨fun _=>1,fun i hi=>(by omega),0,h,by decide⟩
 | k+1,n,A,h=>by
  by_cases hz:∀ j,j < n -> A k j=0
  ·obtain ⟨x, hx, hj⟩ := zrP k n A (by omega)
   refine ⟨x,fun i hi=>?_,hj⟩
   by_cases e:i < k
   ·exact hx i e
   ·obtain rfl : i = k := by omega
    exact zrg fun j hj=>by rw [hz j hj,Rat.zero_mul]
  ·have hz2 : ∃ a, a < n /\ A k a ≠ 0 := Classical.byContradiction fun hc => hz fun j hj => Classical.byContradiction fun hc2 => hc ⟨j, hj, hc2⟩
   obtain ⟨a,ha,hne⟩:=hz2
   obtain ⟨m,rfl⟩:∃ m,n=m+1:=⟨n - 1,by omega⟩
   obtain ⟨y,hy,j,hj,hyj⟩:=zrP k m (fun i j=>A i (skipR a j) - A k (skipR a j) * (A i a / A k a)) (by omega)
   obtain ⟨S,hS⟩:∃ S,rsum m (fun j=>A k (skipR a j) * y j)=S:=⟨_,rfl⟩
   obtain ⟨x,hx⟩:∃ x:Nat -> Rat,x=fun j=>if j=a then - S / A k a else y (zr8 a j):=⟨_,rfl⟩
   have hxs:∀ j,x (skipR a j)=y j:=fun j=>by
    rw [hx]; show (if skipR a j=a then _ else _)=_
    rw [if_neg (ztd a j),zr7]
   have hxa:x a = - S / A k a:=by rw [hx]; exact if_pos rfl
   have hrow:∀ i,rsum (m+1) (fun j=>A i j * x j)=rsum m (fun j=>A i (skipR a j) * y j)+A i a * (- S / A k a):=fun i=>by
    rw [zr1 (a:=a) _ m (by omega),hxa,zq9 (n:=m) fun j _=>by rw [hxs]]
   refine ⟨x,fun i hi=>?_,skipR a j,zte hj,by rw [hxs]; exact hyj⟩
   rw [hrow]
   by_cases e:i < k
   ·have h1 := hy i e
    have h2:rsum m (fun j=>A i (skipR a j) * y j)=rsum m (fun j=>(A i (skipR a j) - A k (skipR a j) * (A i a / A k a)) * y j+(A i a / A k a) * (A k (skipR a j) * y j)):=zq9 fun j _=>by grind
    rw [h2,zrR,zrj,h1,hS]
    clear h2 h1 hy hrow hxs hx
    grind
   ·obtain rfl : i = k := by omega
    rw [hS]
    clear hy hrow hxs hx
    grind
theorem zto {n k m:Nat} {E G:Nat -> Nat -> Rat} {p:Nat -> Nat} (h:Rre n k E p) (hs:∀ i,i < k -> InSp n m G (E i)):k <= m:=by
 rcases Nat.lt_or_ge m k with hlt | hge
 ·exfalso
  have h2:∀ i,∃ d:Nat -> Rat,i < k -> ∀ j,j < n -> E i j=rsum m (fun l=>d l * G l j):=fun i=>by
   by_cases hi:i < k
   ·obtain ⟨d,hd⟩:=hs i hi; exact ⟨d,fun _=>hd⟩
   ·exact ⟨fun _=>0,fun h3=>absurd h3 hi⟩
  obtain ⟨T,hT⟩:∃ T:Nat -> Nat -> Rat,∀ i,i < k -> ∀ j,j < n -> E i j=rsum m (fun l=>T i l * G l j):=⟨fun i=>Classical.choose (h2 i),fun i hi=>Classical.choose_spec (h2 i) hi⟩
  obtain ⟨y,hy,a,ha,hya⟩:=zrP m k (fun l i=>T i l) hlt
  have hz:rsum k (fun i=>y i * E i (p a))=0:=by
   rw [zq9 (g:=fun i=>rsum m (fun l=>G l (p a) * (T i l * y i))) (fun i hi=>by
    rw [hT i hi _ (h.lt a ha),<- zrj]; exact zq9 fun l _=>by grind),zru]
   exact zrg fun l hl=>by rw [zrj,hy l hl,Rat.mul_zero]
  rw [zq9 (g:=fun i=>y i * (if i=a then 1 else 0)) (fun i hi=>by rw [h.one i a hi ha]),zre ha,Rat.mul_one] at hz
  exact hya hz
 ·exact hge
def RkIs (n r:Nat) (Q:Nat -> Nat -> Rat) (k:Nat):Prop:=∃ E p,Rre n k E p/\(∀ i,i < k -> InSp n r Q (E i))/\∀ i,i < r -> InSp n k E (Q i)
theorem RkIs.unique {n r k k':Nat} {Q:Nat -> Nat -> Rat} (h:RkIs n r Q k) (h':RkIs n r Q k'):k=k':=by
 obtain ⟨E,p,h1,h2,h3⟩:=h
 obtain ⟨E',p',h1',h2',h3'⟩:=h'
 exact (h1.unique h1' (fun i hi=>zrl h3' (h2 i hi)) (fun i hi=>zrl h3 (h2' i hi))).1
theorem RkIs.le {n r k:Nat} {Q:Nat -> Nat -> Rat} (h:RkIs n r Q k):k <= r:=by
 obtain ⟨E,p,h1,h2,_⟩:=h
 exact zto h1 h2
theorem ztt {c L q r:Rat} (h:L ≠ 0) (e:r=L * q):c * q=c / L * r:=by rw [e]; grind
theorem zsv {n r:Nat} {Q R:Nat -> Nat -> Rat} {L:Nat -> Rat} (h0:∀ i,i < r -> L i ≠ 0) (h:∀ i,i < r -> ∀ j,j < n -> R i j=L i * Q i j) {v:Nat -> Rat}:InSp n r R v ↔ InSp n r Q v:=by
 constructor
 ·rintro ⟨c, hc⟩
  exact ⟨fun i=>c i * L i,fun j hj=>by rw [hc j hj]; exact zq9 fun i hi=>by rw [h i hi j hj,Rat.mul_assoc]⟩
 ·rintro ⟨c, hc⟩
  exact ⟨fun i=>c i / L i,fun j hj=>by rw [hc j hj]; exact zq9 fun i hi=>ztt (h0 i hi) (h i hi j hj)⟩
theorem zsw {n r:Nat} {Q:Nat -> Nat -> Rat} {v u:Nat -> Rat} (h:∀ j,j < n -> v j=u j) (hv:InSp n r Q v):InSp n r Q u:=by
 obtain ⟨c,hc⟩:=hv
 exact ⟨c,fun j hj=>by rw [<- h j hj]; exact hc j hj⟩
theorem zsF {n r:Nat} {Q R:Nat -> Nat -> Rat} {v:Nat -> Rat} (h:∀ i,i < r -> ∀ j,j < n -> Q i j=R i j) (hv:InSp n r Q v):InSp n r R v:=by
 obtain ⟨c,hc⟩:=hv
 exact ⟨c,fun j hj=>by rw [hc j hj]; exact zq9 fun i hi=>by rw [h i hi j hj]⟩
structure KerIs (n r:Nat) (Q:Nat -> Nat -> Rat) (d:Nat) (V:Nat -> Nat -> Rat) (f:Nat -> Nat):Prop where
 rre:Rre n d V f
 nul:∀ l,l < d -> Nul n r Q (V l)
 sp:∀ x,Nul n r Q x -> InSp n d V x
theorem KerIs.unique {n r d d':Nat} {Q V V':Nat -> Nat -> Rat} {f f':Nat -> Nat} (h:KerIs n r Q d V f) (h':KerIs n r Q d' V' f'):d=d'/\∀ i,i < d -> ∀ j,j < n -> V i j=V' i j:=by
 obtain ⟨a,_,b⟩:=h.rre.unique h'.rre (fun i hi=>h'.sp _ (h.nul i hi)) (fun i hi=>h.sp _ (h'.nul i hi))
 exact ⟨a,b⟩
def qR (rows:List (List Rat)) (i j:Nat):Rat:=(rows.getD i []).getD j 0
theorem zrW (qs:List Rat):∀ i,0 < lcmQ qs i
 | 0=>by show (0:Int) < 1; decide
 | i+1=>by
  have ih:=zrW qs i
  obtain ⟨L,hL⟩:∃ L,lcmQ qs i=L:=⟨_,rfl⟩
  show 0 < lcmQ qs i * flr ((qs.getD i 0).den:Int) ((Nat.gcd (lcmQ qs i).natAbs ((qs.getD i 0).den:Int).natAbs:Nat):Int)
  rw [hL] at ih ⊢
  have hd:0 < (qs.getD i 0).den:=(qs.getD i 0).den_pos
  obtain ⟨d,hd2⟩:∃ d,(qs.getD i 0).den=d:=⟨_,rfl⟩
  rw [hd2] at hd ⊢
  rw [Int.natAbs_natCast]
  have hg:0 < Nat.gcd L.natAbs d:=Nat.gcd_pos_of_pos_right _ hd
  rw [zeo (by omega)]
  refine Int.mul_pos ih ?_
  have h1:0 < d / Nat.gcd L.natAbs d:=Nat.div_pos (Nat.le_of_dvd hd (Nat.gcd_dvd_right _ _)) hg
  have h2:((d:Int) / ((Nat.gcd L.natAbs d:Nat):Int))=((d / Nat.gcd L.natAbs d:Nat):Int):=rfl
  omega
theorem zsE (qs:List Rat) (i:Nat):∃ c:Int,lcmQ qs (i+1)=lcmQ qs i * c/\((qs.getD i 0).den:Int) ∣ lcmQ qs (i+1):=by
 have ih:=zrW qs i
 show ∃ c:Int,lcmQ qs i * flr ((qs.getD i 0).den:Int) ((Nat.gcd (lcmQ qs i).natAbs ((qs.getD i 0).den:Int).natAbs:Nat):Int)=lcmQ qs i * c/\((qs.getD i 0).den:Int) ∣ lcmQ qs i * flr ((qs.getD i 0).den:Int) ((Nat.gcd (lcmQ qs i).natAbs ((qs.getD i 0).den:Int).natAbs:Nat):Int)
 refine ⟨_,rfl,?_⟩
 obtain ⟨L,hL⟩:∃ L,lcmQ qs i=L:=⟨_,rfl⟩
 rw [hL] at ih ⊢
 have hd:0 < (qs.getD i 0).den:=(qs.getD i 0).den_pos
 obtain ⟨d,hd2⟩:∃ d,(qs.getD i 0).den=d:=⟨_,rfl⟩
 rw [hd2] at hd ⊢
 rw [Int.natAbs_natCast]
 have hg:0 < Nat.gcd L.natAbs d:=Nat.gcd_pos_of_pos_right _ hd
 rw [zeo (by omega)]
 obtain ⟨a,ha⟩:=Nat.gcd_dvd_left L.natAbs d
 obtain ⟨b,hb⟩:=Nat.gcd_dvd_right L.natAbs d
 obtain ⟨g,hg2⟩:∃ g,Nat.gcd L.natAbs d=g:=⟨_,rfl⟩
 rw [hg2] at ha hb hg ⊢
 have h2:((d:Int) / (g:Int))=(b:Int):=by
  rw [hb,Int.natCast_mul]; exact Int.mul_ediv_cancel_left _ (by omega)
 have hL2:L=(g:Int) * a:=by rw [<- Int.natCast_mul,<- ha]; omega
 rw [h2]
 exact ⟨a,by rw [hL2,hb,Int.natCast_mul]; grind⟩
theorem zsk (qs:List Rat):∀ i j,j < i -> ((qs.getD j 0).den:Int) ∣ lcmQ qs i
 | 0,j,h=>by omega
 | i+1,j,h=>by
  obtain ⟨c,h1,h2⟩:=zsE qs i
  by_cases e:j=i
  ·rw [e]; exact h2
  ·rw [h1]; exact Int.dvd_trans (zsk qs i j (by omega)) ⟨c,rfl⟩
theorem zsQ (qs:List Rat) (j:Nat):(((zb8 qs).getD j 0:Int):Rat)=(lcmQ qs qs.length:Rat) * qs.getD j 0:=by
 by_cases hj:j < qs.length
 ·have e:(zb8 qs).getD j 0=(qs.getD j 0).num * flr (lcmQ qs qs.length) ((qs.getD j 0).den:Int):=by
   unfold zb8
   rw [List.getD_eq_getElem?_getD,List.getElem?_map,List.getD_eq_getElem?_getD,zg hj]; rfl
  have hdv:=zsk qs qs.length j hj
  obtain ⟨q,hq⟩:∃ q,qs.getD j 0=q:=⟨_,rfl⟩
  rw [hq] at hdv
  rw [e,hq]
  obtain ⟨a,ha⟩:=hdv
  have hd:(q.den:Int) ≠ 0:=by have:=q.den_pos; omega
  rw [ha,zsG hd,Rat.intCast_mul,Rat.intCast_mul]
  have h3:(q.num:Rat)=((q.den:Int):Rat) * q:=by
   have h4:=Rat.num_divInt_den q
   rw [Rat.divInt_eq_div] at h4
   have h5:((q.den:Int):Rat) ≠ 0:=zr2 hd
   conv=>rhs; rw [<- h4]
   grind
  rw [h3]; grind
 ·rw [List.getD_eq_getElem?_getD, List.getElem?_eq_none (by simpa [zb8] using Nat.le_of_not_lt hj), List.getD_eq_getElem?_getD, List.getElem?_eq_none (by omega)]
  show ((0:Int):Rat)=_ * (0:Rat)
  rw [Rat.mul_zero]; rfl
theorem zrL (rows:List (List Rat)) (i j:Nat):((rowZ (rows.map zb8) i j:Int):Rat)=(lcmQ (rows.getD i []) (rows.getD i []).length:Rat) * qR rows i j:=by
 have e:(rows.map zb8).getD i []=zb8 (rows.getD i []):=by
  rw [List.getD_eq_getElem?_getD,List.getElem?_map,List.getD_eq_getElem?_getD]
  cases rows[i]? <;> rfl
 unfold rowZ qR
 rw [e]; exact zsQ _ j
theorem zsD (rows:List (List Rat)) (i:Nat):(lcmQ (rows.getD i []) (rows.getD i []).length:Rat) ≠ 0:=zr2 (by have:=zrW (rows.getD i []) (rows.getD i []).length; omega)
theorem zr0 {rows:List (List Rat)} {n:Nat} (hm:∀ r ∈ rows,r.length=n):
  Rre n (elGo n (rows.map zb8) n).piv.length (elE (elGo n (rows.map zb8) n)) (elP (elGo n (rows.map zb8) n))/\(∀ i,i < (elGo n (rows.map zb8) n).piv.length -> InSp n rows.length (qR rows) (elE (elGo n (rows.map zb8) n) i)) /\
  (∀ i,i < rows.length -> InSp n (elGo n (rows.map zb8) n).piv.length (elE (elGo n (rows.map zb8) n)) (qR rows i))/\(∀ i,i < (elGo n (rows.map zb8) n).piv.length -> ((elGo n (rows.map zb8) n).piv.getD i 0=(elP (elGo n (rows.map zb8) n) i:Int))):=by
 obtain ⟨h1,h2,h3,h4,_,_⟩:=ztu (n:=n) (r:=rows.length) (rows:=rows.map zb8) (by simp) (fun zs hz=>by
  obtain ⟨r,hr,rfl⟩:=List.mem_map.1 hz
  simpa [zb8] using hm r hr)
 refine ⟨h1,fun i hi=>(zsv (fun i _=>zsD rows i) (fun i _ j _=>zrL rows i j)).1 (h2 i hi),fun i hi=>?_,h4⟩
 obtain ⟨c,hc⟩:=h3 i hi
 exact ⟨fun l=>c l / (lcmQ (rows.getD i []) (rows.getD i []).length:Rat),fun j hj=>by
  have h5:=hc j hj
  have h6:=zsD rows i
  dsimp only at h5
  rw [zrL] at h5
  rw [zq9 (g:=fun l=>c l * elE (elGo n (rows.map zb8) n) l j * (1 / (lcmQ (rows.getD i []) (rows.getD i []).length:Rat))) (fun l _=>zsC),zrh,<- h5]
  exact rat_c h6⟩
theorem zsP {rows:List (List Rat)} {n:Nat} (hm:∀ r ∈ rows,r.length=n):RkIs n rows.length (qR rows) (elGo n (rows.map zb8) n).piv.length:=by
 obtain ⟨h1,h2,h3,_⟩:=zr0 hm
 exact ⟨_,_,h1,h2,h3⟩
theorem zsN {k:Nat} {p:Nat -> Nat} (h:∀ i m,i < m -> m < k -> p i < p m):∀ i,i < k -> i <= p i
 | 0,_=>Nat.zero_le _
 | i+1,hi=>by have:=zsN h i (by omega); have:=h i (i+1) (by omega) hi; omega
theorem zs7 {k n:Nat} {p:Nat -> Nat} (h:∀ i m,i < m -> m < k -> p i < p m) (hn:∀ i,i < k -> p i < n):∀ d i,i+d+1=k -> p i+d+1 <= n
 | 0,i,e=>by have:=hn i (by omega); omega
 | d+1,i,e=>by have:=zs7 h hn d (i+1) (by omega); have:=h i (i+1) (by omega) (by omega); omega
theorem zs8 {n:Nat} {p:Nat -> Nat} (h:∀ i m,i < m -> m < n -> p i < p m) (hn:∀ i,i < n -> p i < n):∀ i,i < n -> p i=i:=fun i hi=>by
 have:=zsN h i hi
 have:=zs7 h hn (n - 1 - i) i (by omega)
 omega
theorem zsn {n r:Nat} {Q:Nat -> Nat -> Rat} {v:Nat -> Rat} (h:InSp (n+1) r Q v):InSp n r Q v:=by
 obtain ⟨c,hc⟩:=h
 exact ⟨c,fun j hj=>hc j (by omega)⟩
theorem ztp {n r k:Nat} {Q E:Nat -> Nat -> Rat} {p:Nat -> Nat} (h:Rre (n+1) k E p) (h2:∀ i,i < k -> InSp (n+1) r Q (E i)) (h3:∀ i,i < r -> InSp (n+1) k E (Q i)) (hp:∀ i,i < k -> p i < n):RkIs n r Q k:=
 ⟨E,p,⟨hp,h.inc,h.one,h.low⟩,fun i hi=>zsn (h2 i hi),fun i hi=>zsn (h3 i hi)⟩
theorem zsg {n r:Nat} {Q:Nat -> Nat -> Rat} {v x:Nat -> Rat} (hb:∀ i,i < r -> Q i n=rsum n (fun j=>Q i j * x j)) (h:InSp (n+1) r Q v):v n=rsum n (fun j=>v j * x j):=by
 obtain ⟨c,hc⟩:=h
 rw [hc n (by omega),zq9 (g:=fun i=>rsum n (fun j=>c i * (Q i j * x j))) (fun i hi=>by rw [hb i hi,<- zrj]),zru]
 exact zq9 fun j hj=>by
  rw [hc j (by omega),<- zrh]
  exact zq9 fun i _=>by rw [Rat.mul_assoc]
theorem zsB {n r k:Nat} {Q E:Nat -> Nat -> Rat} {p:Nat -> Nat} {x:Nat -> Rat} (h:Rre (n+1) k E p) (h2:∀ i,i < k -> InSp (n+1) r Q (E i)) (hb:∀ i,i < r -> Q i n=rsum n (fun j=>Q i j * x j)):∀ i,i < k -> p i < n:=fun i hi=>by
 have h1:=h.lt i hi
 rcases Nat.lt_or_ge (p i) n with hl | hl
 ·exact hl
 ·exfalso
  have e:p i=n:=by omega
  have h4:=zsg hb (h2 i hi)
  rw [zrg (fun j hj=>by rw [h.low i hi j (by omega),Rat.zero_mul])] at h4
  have h5:=h.one i i hi hi
  rw [if_pos rfl,e,h4] at h5
  exact absurd h5 (by decide)
theorem ztb {n r:Nat} {Q E:Nat -> Nat -> Rat} {p:Nat -> Nat} {x:Nat -> Rat} (h:Rre (n+1) n E p) (h2:∀ i,i < n -> InSp (n+1) r Q (E i)) (hb:∀ i,i < r -> Q i n=rsum n (fun j=>Q i j * x j)):∀ i,i < n -> E i n=x i:=fun i hi=>by
 have hp:=zs8 h.inc (zsB h h2 hb)
 rw [zsg hb (h2 i hi),zq9 (g:=fun j=>x j * (if j=i then 1 else 0)) (fun j hj=>by
  have:=h.one i j hi hj
  rw [hp j hj] at this
  rw [this,Rat.mul_comm]
  by_cases e:i=j
  ·rw [if_pos e,if_pos e.symm]
  ·rw [if_neg e,if_neg (fun e2=>e e2.symm)]),zre hi,Rat.mul_one]
def augR (rows:List (List Rat)) (b:List Rat):List (List Rat):=(List.range rows.length).map fun i=>rows.getD i [] ++ [b.getD i 0]
theorem zsc {rows:List (List Rat)} {b:List Rat}:(augR rows b).length=rows.length:=by simp [augR]
theorem zsX {rows:List (List Rat)} {b:List Rat} {i:Nat} (hi:i < rows.length):(augR rows b).getD i []=rows.getD i [] ++ [b.getD i 0]:=by
 unfold augR
 rw [List.getD_eq_getElem?_getD,List.getElem?_map,List.getElem?_range hi]; rfl
theorem zsd {rows:List (List Rat)} {b:List Rat} {i n:Nat} (hm:∀ r ∈ rows,r.length=n) (hi:i < rows.length):(∀ j,j < n -> qR (augR rows b) i j=qR rows i j)/\qR (augR rows b) i n=b.getD i 0:=by
 have hl:(rows.getD i []).length=n:=hm _ (by rw [za3 (zg hi)]; exact List.getElem_mem hi)
 unfold qR
 rw [zsX hi]
 constructor
 ·intro j hj
  obtain ⟨z,hz⟩:∃ z,rows.getD i []=z:=⟨_,rfl⟩
  rw [hz] at hl ⊢
  rw [List.getD_eq_getElem?_getD,List.getElem?_append_left (by omega),List.getD_eq_getElem?_getD]
 ·rw [List.getD_eq_getElem?_getD,List.getElem?_append_right (by omega),hl]; simp
theorem zsY {rows:List (List Rat)} {b:List Rat} {n:Nat} (hm:∀ r ∈ rows,r.length=n):∀ r ∈ augR rows b,r.length=n+1:=fun r hr=>by
 obtain ⟨i,hi,rfl⟩:=List.mem_map.1 hr
 have hi:=List.mem_range.1 hi
 have hl:(rows.getD i []).length=n:=hm _ (by rw [za3 (zg hi)]; exact List.getElem_mem hi)
 rw [List.length_append,hl]; rfl
theorem ztn {rows:List (List Rat)} {b:List Rat} {n k:Nat} {x:Nat -> Rat} (hm:∀ r ∈ rows,r.length=n) (hk:RkIs n rows.length (qR rows) k) {S:ElS} (hS:elGo (n+1) ((augR rows b).map zb8) (n+1)=S)
  (hb:∀ i,i < rows.length -> b.getD i 0=rsum n (fun j=>qR rows i j * x j)):
  S.piv.length=k/\(k=n -> ∀ i,i < n -> S.piv.getD i 0=(i:Int)/\elE S i n=x i):=by
 obtain ⟨h1,h2,h3,h4⟩:=zr0 (zsY (b:=b) hm)
 rw [hS,zsc] at h2 h3
 rw [hS] at h1 h4
 have hb2:∀ i,i < rows.length -> qR (augR rows b) i n=rsum n (fun j=>qR (augR rows b) i j * x j):=fun i hi=>by
  obtain ⟨a1,a2⟩:=zsd (b:=b) hm hi
  rw [a2,hb i hi]; exact zq9 fun j hj=>by rw [a1 j hj]
 have hp:=zsB h1 h2 hb2
 have hr:=ztp h1 h2 h3 hp
 have hr2:RkIs n rows.length (qR rows) S.piv.length:=by
  obtain ⟨E,p,a,c,d⟩:=hr
  refine ⟨E,p,a,fun i hi=>zsF (fun l hl j hj=>(zsd (b:=b) hm hl).1 j hj) (c i hi),fun i hi=>zsw (fun j hj=>(zsd (b:=b) hm hi).1 j hj) (d i hi)⟩
 have e:=hr2.unique hk
 refine ⟨e,fun e2 i hi=>?_⟩
 have e3:S.piv.length=n:=by omega
 rw [e3] at h1 h2 hp h4
 exact ⟨by rw [h4 i hi,zs8 h1.inc hp i hi],ztb h1 h2 hb2 i hi⟩
structure Bn (q:Rat) (N D:Nat):Prop where
 num:q.num.natAbs <= N
 den:q.den <= D
theorem zs6 {a:Int} {b:Int} (hb:b ≠ 0):Bn (Rat.divInt a b) a.natAbs b.natAbs:=by
 have hd:0 < b.natAbs:=by omega
 constructor
 ·rw [Rat.num_divInt]
  have h1:b.sign.natAbs <= 1:=by
   rcases Int.lt_or_gt_of_ne hb with h | h
   ·rw [Int.sign_eq_neg_one_of_neg h]; decide
   ·rw [Int.sign_eq_one_of_pos h]; decide
  refine zo (Int.natAbs_ediv_le_natAbs _ _) ?_
  rw [Int.natAbs_mul]
  have:=Nat.mul_le_mul h1 (zv a.natAbs)
  omega
 ·rw [Rat.den_divInt]
  split
  ·omega
  ·exact Nat.div_le_self _ _
theorem Bn.mono {q:Rat} {N D N' D':Nat} (h:Bn q N D) (hn:N <= N') (hd:D <= D'):Bn q N' D':=⟨zo h.num hn,zo h.den hd⟩
theorem Bn.mul {p q:Rat} {N D N' D':Nat} (h:Bn p N D) (h':Bn q N' D'):Bn (p * q) (N * N') (D * D'):=by
 have e:p * q=Rat.divInt (p.num * q.num) ((p.den * q.den:Nat):Int):=by
  rw [Rat.mul_def']; rfl
 rw [e]
 have hz:((p.den * q.den:Nat):Int) ≠ 0:=by have:=Nat.mul_pos p.den_pos q.den_pos; omega
 refine (zs6 hz).mono ?_ ?_
 ·rw [Int.natAbs_mul]; exact Nat.mul_le_mul h.num h'.num
 ·rw [Int.natAbs_natCast]; exact Nat.mul_le_mul h.den h'.den
theorem Bn.add {p q:Rat} {N D N' D':Nat} (h:Bn p N D) (h':Bn q N' D'):Bn (p+q) (N * D'+N' * D) (D * D'):=by
 have e:p+q=Rat.divInt (p.num * q.den+q.num * p.den) ((p.den * q.den:Nat):Int):=by
  rw [Rat.add_def']; rfl
 rw [e]
 have hz:((p.den * q.den:Nat):Int) ≠ 0:=by have:=Nat.mul_pos p.den_pos q.den_pos; omega
 refine (zs6 hz).mono ?_ ?_
 ·refine zo (Int.natAbs_add_le _ _) ?_
  rw [Int.natAbs_mul,Int.natAbs_mul,Int.natAbs_natCast,Int.natAbs_natCast]
  exact Nat.add_le_add (Nat.mul_le_mul h.num h'.den) (Nat.mul_le_mul h'.num h.den)
 ·rw [Int.natAbs_natCast]; exact Nat.mul_le_mul h.den h'.den
theorem zsM:Bn 0 0 1:=⟨by decide,by decide⟩
def bnS (N D:Nat):Nat -> Nat × Nat
 | 0=>(0,1)
 | k+1=>((bnS N D k).1 * D+N * (bnS N D k).2,(bnS N D k).2 * D)
theorem zsp {N D:Nat} (h:0 < D):∀ {k m:Nat},k <= m -> (bnS N D k).1 <= (bnS N D m).1/\(bnS N D k).2 <= (bnS N D m).2
 | k,0,e=>by
  obtain rfl:k=0:=by omega
  exact ⟨zv _,zv _⟩
 | k,m+1,e=>by
  by_cases e2:k=m+1
  ·rw [e2]; exact ⟨zv _,zv _⟩
  ·obtain ⟨a, b⟩ := zsp h (k := k) (m := m) (by omega)
   exact ⟨zo a (zo (Nat.le_mul_of_pos_right _ h) (Nat.le_add_right _ _)),zo b (Nat.le_mul_of_pos_right _ h)⟩
theorem zs5 {f:Nat -> Rat} {N D:Nat}:∀ k,(∀ i,i < k -> Bn (f i) N D) -> Bn (rsum k f) (bnS N D k).1 (bnS N D k).2
 | 0,_=>zsM
 | k+1,h=>(zs5 k fun i hi=>h i (by omega)).add (h k (by omega))
class CellAt (w:World) (ad:Addr) (v:outParam Value):Prop where
 out:w.cell? ad=some v
section
variable {w w' W X a:World} {ad:Addr} {v x:Value} {m r i:Nat} {o:Obj}
theorem CellAt.lt (k:CellAt w ad v):ad.block < w.heap.size:=by
 have h:=k.out
 unfold World.cell? at h
 cases hb:w.heap[ad.block]? with
 | none=>rw [hb] at h; cases h
 | some o=>exact (Array.getElem?_eq_some_iff.1 hb).1
theorem CellAt.of_block (k:CellAt w ad v) (h:w'.heap[ad.block]?=w.heap[ad.block]?):CellAt w' ad v:=⟨by
 have h2:=k.out
 unfold World.cell? at h2 ⊢
 rw [h]; exact h2⟩
instance CellAt.was [h:Was W X] [k:CellAt X ad v]:CellAt W ad v:=by rw [h.out]; exact k
instance CellAt.nxt [h:Nxt a w'] [k:CellAt a ad v]:CellAt w' ad v:=k.of_block (h.out.block _ k.lt)
instance CellAt.drew [k:CellAt X ad v]:CellAt X.drew ad v:=⟨k.out⟩
instance CellAt.drewN [k:CellAt X ad v]:CellAt (X.drewN m) ad v:=⟨k.out⟩
instance CellAt.alloc [k:CellAt X ad v]:CellAt (X.alloc o) ad v:=k.of_block (((Below.refl X.heap.size X).alloc (zv _) o).block _ k.lt)
instance CellAt.but {rs:List Nat} [h:ButO a rs w'] [k:CellAt a ad v] [j:NotIn ad.block rs]:CellAt w' ad v:=k.of_block (h.out.block _ k.lt j.out)
@[go_sem] theorem CellAt.cell [k:CellAt w ad v]:w.cell? ad=some v:=k.out
end
section
variable {A:Option Addr} {c n:Nat} {w:World}
theorem zsb {L:List (List UInt8)} (hs:SAt w A L) (hl:L.length=n) (hn:n < 2 ^ 63) (hx:∀ x ∈ L,x.length < 2 ^ 63):
  Calls Tryz.prog 45 #[.slice A n c] w (PRet w (.int .i64 (zay (L.map readE)))):=by
 have hc:∀ (i:Nat) (x:List UInt8),L[i]?=some x -> ∀ w',Nxt w w' -> ∃ ad,A=some ad/\w'.cell? (ad.add i)=some (str x):=fun i x hx w' hn=>(SAt.nxt hs hn) i x hx
 have HC:=zc hc; have HN:=zc hn; have HL:=zc hl
 clear hc hn hl hs
 have HS:=zc hx
 clear hx
 go_enter Tryz.func45,Tryz.ntmps45
 go_wp2_with fail
 go_loopw [3] (fun s3 wr=>∃ i:Nat,s3 = .int .i64 (i:Int)/\i <= n/\(∀ (j:Nat) (y:Int),j < i -> (L.map readE)[j]?=some y -> y=0)/\Nxt w wr) (fun s3 _=>n - (intOf s3).toNat)
 case atStart=>exact ⟨0,rfl,Nat.zero_le _,fun _ _ h=>absurd h (by omega),zaa⟩
 case round=>
  obtain ⟨i,rfl,hi,hok,hx0⟩:=hrel
  have HO:=zc hok
  clear hok
  by_cases hin:i < n
  ·have hlt : decide ((i : Int) < (n : Int)) = true := by simp; omega
   have hlt':(i:Int) < (n:Int):=by omega
   have hadd:IntKind.i64.wrap ((i:Int)+1)=((i+1:Nat):Int):=by have:=HN.out; rw [zx]; omega
   obtain ⟨x,hx⟩:∃ x,L[i]?=some x:=⟨L[i]'(by rw [HL.out]; exact hin),zg _⟩
   obtain ⟨ad,rfl,k3⟩:=HC.out i x hx wr hx0
   have hm:x.length < 2 ^ 63:=HS.out x (zk hx)
   have HX:=zc (show (L.map readE)[i]?=some (readE x) by rw [List.getElem?_map,hx]; rfl)
   have HK:Hid (∀ w,Calls _ _ _ w _):=zc (fun w=>zkL (l:=x) (w:=w) hm)
   obtain ⟨E,hE⟩:∃ E,readE x=E:=⟨_,rfl⟩
   rw [hE] at HX HK
   clear hx hm hE
   go_wp2_with fail
   refine zf (HK.out _) ?_
   rintro e w1 ⟨rfl,hx1⟩
   by_cases hz:E=0
   ·subst hz
    go_wp2_with fail
    go_roundw
    case rel=>exact ⟨i+1,rfl,hin,fun j y hj hy=>by
     rcases Nat.lt_or_ge j i with h | h
     ·exact HO.out j y h hy
     ·obtain rfl : j = i := by omega
      rw [HX.out] at hy; exact (zl hy).symm,zaa⟩
    case measure=>simp [intOf]; omega
   ·have hnx : (E != 0) = true := by simpa using hz
    go_wp2_with fail
    go_ret
    exact ⟨by rw [zcK HO.out HX.out hz]; rfl,zaa⟩
  ·have hlt : decide ((i : Int) < (n : Int)) = false := by simp; omega
   have hlt':¬ (i:Int) < (n:Int):=by omega
   go_wp2_with fail
   go_ret
   exact ⟨by rw [zcd (fun e he=>by
    obtain ⟨j,hj,rfl⟩:=List.getElem_of_mem he
    exact HO.out j _ (by have:=HL.out; simp at hj; omega) (zg hj))]; rfl,zaa⟩
theorem zrf (ad:Addr):ad.add 0=ad:=by unfold Addr.add; simp
theorem zrr {rows:List (List (List UInt8))} (hm:MAt w A rows) (hl:rows.length=n) (hn:n < 2 ^ 63) (hr:∀ r ∈ rows,r.length < 2 ^ 63) (hx:∀ r ∈ rows,∀ x ∈ r,x.length < 2 ^ 63):
  Calls Tryz.prog 35 #[.slice A n c] w (PRet w (.int .i64 (matE rows))):=by
 have hc:∀ (i:Nat) (r:List (List UInt8)),rows[i]?=some r -> ∀ w',Nxt w w' -> ∃ ad B k d,A=some ad/\CellAt w' (ad.add i) (.slice B k d)/\r.length=k/\SAt w' B r:=fun i r hr w' hn=>by
  obtain ⟨ad,B,k,d,h1,h2,h3,h4⟩:=(MAt.nxt hm hn) i r hr
  exact ⟨ad,B,k,d,h1,⟨h2⟩,h3,h4⟩
 have HC:=zc hc; have HN:=zc hn; have HL:=zc hl
 clear hc hn hl hm
 have HR:=zc hr; have HX:=zc hx
 clear hr hx
 by_cases h0:n=0
 ·have HV := zc (show matE rows = 12 by unfold matE cntE; rw [HL.out, if_pos h0]; rfl)
  have z0:((n:Int) == 0)=true:=by simp; omega
  clear h0
  go_enter Tryz.func35,Tryz.ntmps35
  go_wp2_with fail
  go_ret
  exact ⟨by rw [HV.out]; rfl,zaa⟩
 have z0:((n:Int) == 0)=false:=by simp; omega
 by_cases h64:64 < n
 ·have HV := zc (show matE rows = 5 by unfold matE cntE; rw [HL.out, if_neg h0, if_pos h64]; rfl)
  have z1:decide ((64:Int) < (n:Int))=true:=by simp; omega
  have z1':(64:Int) < (n:Int):=by omega
  clear h0 h64
  go_enter Tryz.func35,Tryz.ntmps35
  go_wp2_with fail
  go_ret
  exact ⟨by rw [HV.out]; rfl,zaa⟩
 have z1:decide ((64:Int) < (n:Int))=false:=by simp; omega
 have z1':¬ (64:Int) < (n:Int):=by omega
 have HV:=zc (show matE rows=zay (rows.map (rowE (rows.headD []).length)) by unfold matE cntE; rw [HL.out,if_neg h0,if_neg h64]; rfl)
 have HN6:=zc (show 0 < n/\n <= 64 by omega)
 obtain ⟨f,hf⟩:∃ f,(rows.headD []).length=f:=⟨_,rfl⟩
 rw [hf] at HV
 have HF:=zc hf
 clear h0 h64 hf
 go_enter Tryz.func35,Tryz.ntmps35
 go_wp2_with fail
 go_loopw [3] (fun s3 wr=>∃ i:Nat,s3 = .int .i64 (i:Int)/\i <= n/\(∀ (j:Nat) (y:Int),j < i -> (rows.map (rowE f))[j]?=some y -> y=0)/\Nxt w wr) (fun s3 _=>n - (intOf s3).toNat)
 case atStart=>exact ⟨0,rfl,Nat.zero_le _,fun _ _ h=>absurd h (by omega),zaa⟩
 case round=>
  obtain ⟨i,rfl,hi,hok,hx0⟩:=hrel
  have HO:=zc hok
  clear hok
  by_cases hin:i < n
  ·have hlt : decide ((i : Int) < (n : Int)) = true := by simp; omega
   have hlt':(i:Int) < (n:Int):=by omega
   have hpn:decide ((0:Int) < (n:Int))=true:=by have:=HN6.out; simp; omega
   have hpn':(0:Int) < (n:Int):=by have:=HN6.out; omega
   have hadd:IntKind.i64.wrap ((i:Int)+1)=((i+1:Nat):Int):=by have:=HN6.out; rw [zx]; omega
   obtain ⟨r,hr⟩:∃ r,rows[i]?=some r:=⟨rows[i]'(by rw [HL.out]; exact hin),zg _⟩
   obtain ⟨r0,hr0⟩:∃ r0,rows[0]?=some r0:=⟨rows[0]'(by rw [HL.out]; exact HN6.out.1),zg _⟩
   obtain ⟨ad,B,k,d,rfl,k3,hk,hB⟩:=HC.out i r hr wr hx0
   obtain ⟨ad0,B0,k0,d0,e0,k30,hk0,hB0⟩:=HC.out 0 r0 hr0 wr hx0
   obtain rfl:ad=ad0:=zl e0
   rw [zrf] at k30
   have hk0f:k0=f:=by
    rw [<- hk0,<- HF.out]
    cases hrs:rows with
    | nil=>rw [hrs] at hr0; simp at hr0
    | cons a l=>rw [hrs] at hr0; simp at hr0; rw [hr0]; rfl
   subst hk0f
   have HXX:=zc (show (rows.map (rowE k0))[i]?=some (rowE k0 r) by rw [List.getElem?_map,hr]; rfl)
   have hkl:k < 2 ^ 63:=by rw [<- hk]; exact HR.out r (zk hr)
   have hm:∀ x ∈ r,x.length < 2 ^ 63:=HX.out r (zk hr)
   have HK:Hid (∀ w',Nxt wr w' -> Calls _ _ _ w' _):=zc (fun w' hn=>zsb (c:=d) (SAt.nxt hB hn) hk hkl hm)
   obtain ⟨E,hE⟩:∃ E,rowE k0 r=E:=⟨_,rfl⟩
   have HE:=zc hE
   rw [hE] at HXX
   have HKK:=zc hk
   clear hr hr0 hk0 hm hE hB hB0 hk
   by_cases c0:k=0
   ·have y0 : ((k : Int) == 0) = true := by simp; omega
    have HZ:=zc (show E=12 by rw [<- HE.out]; unfold rowE cntE; rw [HKK.out,if_pos c0]; rfl)
    clear c0
    go_wp2_with fail
    go_ret
    exact ⟨by rw [HV.out,zcK HO.out HXX.out (by rw [HZ.out]; decide),HZ.out]; rfl,zaa⟩
   have y0:((k:Int) == 0)=false:=by simp; omega
   by_cases c1:64 < k
   ·have y1 : decide ((64 : Int) < (k : Int)) = true := by simp; omega
    have y1':(64:Int) < (k:Int):=by omega
    have HZ:=zc (show E=5 by rw [<- HE.out]; unfold rowE cntE; rw [HKK.out,if_neg c0,if_pos c1]; rfl)
    clear c0 c1
    go_wp2_with fail
    go_ret
    exact ⟨by rw [HV.out,zcK HO.out HXX.out (by rw [HZ.out]; decide),HZ.out]; rfl,zaa⟩
   have y1:decide ((64:Int) < (k:Int))=false:=by simp; omega
   have y1':¬ (64:Int) < (k:Int):=by omega
   by_cases c2:k=k0
   ·have y2 : ((k : Int) != (k0 : Int)) = false := by simp; omega
    have HZ:=zc (show zay (r.map readE)=E by rw [<- HE.out]; unfold rowE cntE; rw [HKK.out,if_neg c0,if_neg c1]; show _=if k ≠ k0 then _ else _; rw [if_neg (by omega)])
    rw [HZ.out] at HK
    clear c0 c1 c2
    go_wp2_with fail
    go_quiet (fail)
    go_wp2_with fail
    refine zf (HK.out _ zaa) ?_
    rintro e w1 ⟨rfl,hx1⟩
    by_cases hz:E=0
    ·subst hz
     go_wp2_with fail
     go_roundw
     case rel=>exact ⟨i+1,rfl,hin,fun j y hj hy=>by
      rcases Nat.lt_or_ge j i with h | h
      ·exact HO.out j y h hy
      ·obtain rfl : j = i := by omega
       rw [HXX.out] at hy; exact (zl hy).symm,zaa⟩
     case measure=>simp [intOf]; omega
    ·have hnx : (E != 0) = true := by simpa using hz
     go_wp2_with fail
     go_ret
     exact ⟨by rw [HV.out,zcK HO.out HXX.out hz]; rfl,zaa⟩
   ·have y2 : ((k : Int) != (k0 : Int)) = true := by simp; omega
    have HZ:=zc (show E=2 by rw [<- HE.out]; unfold rowE cntE; rw [HKK.out,if_neg c0,if_neg c1]; show (if k ≠ k0 then _ else _)=_; rw [if_pos c2])
    clear c0 c1 c2
    go_wp2_with fail
    go_quiet (fail)
    go_wp2_with fail
    go_ret
    exact ⟨by rw [HV.out,zcK HO.out HXX.out (by rw [HZ.out]; decide),HZ.out]; rfl,zaa⟩
  ·have hlt : decide ((i : Int) < (n : Int)) = false := by simp; omega
   have hlt':¬ (i:Int) < (n:Int):=by omega
   go_wp2_with fail
   go_ret
   exact ⟨by rw [HV.out,zcd (fun e he=>by
    obtain ⟨j,hj,rfl⟩:=List.getElem_of_mem he
    exact HO.out j _ (by have:=HL.out; simp at hj; omega) (zg hj))]; rfl,zaa⟩
def dotL (P Q:List Rat):Nat -> Rat
 | 0=>0
 | k+1=>dotL P Q k+P.getD k 0 * Q.getD k 0
theorem zsI {P Q:List Rat} {a b:Nat} (hP:∀ q ∈ P,Sz q a) (hQ:∀ q ∈ Q,Sz q b):∀ k,k <= P.length -> k <= Q.length -> Sz (dotL P Q k) (k * (a+b+1)+2)
 | 0,_,_=>ziL
 | k+1,h1,h2=>by
  have ih:=zsI hP hQ k (by omega) (by omega)
  have i1:Sz (P.getD k 0) a:=by
   rw [List.getD_eq_getElem?_getD,zg (by omega)]; exact hP _ (List.getElem_mem _)
  have i2:Sz (Q.getD k 0) b:=by
   rw [List.getD_eq_getElem?_getD,zg (by omega)]; exact hQ _ (List.getElem_mem _)
  have e:(k+1) * (a+b+1)+2=k * (a+b+1)+2+(a+b)+1:=by rw [Nat.add_mul,Nat.one_mul]; omega
  rw [e]
  exact (za:Sz (dotL P Q k+P.getD k 0 * Q.getD k 0) (k * (a+b+1)+2+(a+b)+1))
theorem zst {B:Option Addr} {e:Nat} {P Q:List Rat} {a b:Nat} (h1:SAt w A (P.map zad)) (h2:SAt w B (Q.map zad)) (l1:P.length=n) (l2:Q.length=n) (hn:n < 2 ^ 30) (hP:∀ q ∈ P,Sz q a) (hQ:∀ q ∈ Q,Sz q b) (hb:n * (a+b+1)+2 <= 2 ^ 15) (ha:a <= 2 ^ 15) (hbb:b <= 2 ^ 15) (hab:a+b <= 2 ^ 15):
  Calls Tryz.prog 53 #[.slice A n c,.slice B n e] w (PRet w (str (zad (dotL P Q n)))):=by
 have hc1:∀ (i:Nat) (q:Rat),P[i]?=some q -> ∀ w',Nxt w w' -> ∃ ad,A=some ad/\CellAt w' (ad.add i) (str (zad q)):=fun i q hq w' hn=>by
  obtain ⟨ad,h3,h4⟩:=(SAt.nxt h1 hn) i (zad q) (by rw [List.getElem?_map,hq]; rfl)
  exact ⟨ad,h3,⟨h4⟩⟩
 have hc2:∀ (i:Nat) (q:Rat),Q[i]?=some q -> ∀ w',Nxt w w' -> ∃ ad,B=some ad/\CellAt w' (ad.add i) (str (zad q)):=fun i q hq w' hn=>by
  obtain ⟨ad,h3,h4⟩:=(SAt.nxt h2 hn) i (zad q) (by rw [List.getElem?_map,hq]; rfl)
  exact ⟨ad,h3,⟨h4⟩⟩
 have HC1:=zc hc1; have HC2:=zc hc2; have L1:=zc l1; have L2:=zc l2; have HN:=zc hn; have HP:=zc hP; have HQ:=zc hQ
 have HB:=zc (show n * (a+b+1)+2 <= 2 ^ 15/\a <= 2 ^ 15/\b <= 2 ^ 15/\a+b <= 2 ^ 15 from ⟨hb,ha,hbb,hab⟩)
 clear h1 h2 hc1 hc2 l1 l2 hn hP hQ hb ha hbb hab
 go_enter Tryz.func53,Tryz.ntmps53
 go_wp2_with fail
 go_loopw [5,6] (fun s5 s6 wr=>∃ i:Nat,s6 = .int .i64 (i:Int)/\s5=str (zad (dotL P Q i))/\i <= n/\Nxt w wr) (fun _ s6 _=>n - (intOf s6).toNat)
 case atStart=>exact ⟨0,rfl,(by show _=str (zad 0); rw [show zad 0=[48] by decide +kernel]),Nat.zero_le _,zaa⟩
 case round=>
  obtain ⟨i,rfl,rfl,hi,hx0⟩:=hrel
  by_cases hin:i < n
  ·have hlt : decide ((i : Int) < (n : Int)) = true := by simp; omega
   have hlt':(i:Int) < (n:Int):=by omega
   have hadd:IntKind.i64.wrap ((i:Int)+1)=((i+1:Nat):Int):=by have:=HN.out; rw [zx]; omega
   obtain ⟨p,hp⟩:∃ p,P[i]?=some p:=⟨P[i]'(by rw [L1.out]; exact hin),zg _⟩
   obtain ⟨q,hq⟩:∃ q,Q[i]?=some q:=⟨Q[i]'(by rw [L2.out]; exact hin),zg _⟩
   obtain ⟨ad1,rfl,k1⟩:=HC1.out i p hp wr hx0
   obtain ⟨ad2,rfl,k2⟩:=HC2.out i q hq wr hx0
   have s1:Sz p a:=HP.out p (zk hp)
   have s2:Sz q b:=HQ.out q (zk hq)
   have s3:Sz (dotL P Q i) (i * (a+b+1)+2):=zsI HP.out HQ.out i (by rw [L1.out]; omega) (by rw [L2.out]; omega)
   have hmono:i * (a+b+1) <= n * (a+b+1):=Nat.mul_le_mul_right _ hi
   have HM:=zc hmono
   have HE:=zc (show dotL P Q (i+1)=dotL P Q i+p * q by show dotL P Q i+P.getD i 0 * Q.getD i 0=_; rw [za3 hp,za3 hq])
   obtain ⟨s,hs⟩:∃ s,dotL P Q i=s:=⟨_,rfl⟩
   rw [hs] at s3 HE
   rw [hs]
   obtain ⟨z,hz⟩:∃ z,i * (a+b+1)+2=z:=⟨_,rfl⟩
   rw [hz] at s3
   have HZ:=zc hz
   clear hp hq hmono hs hz
   go_wp2_with fail
   (refine Code.nameW ?_; intro W hW; go_region_held3 (fun w'=>ButO W [] w') (exact zab) (((first | (go_at_call 52; refine zf (zoh (by have:=HB.out; omega) (by have:=HB.out; omega)) ?_; rintro e w1 ⟨rfl,_⟩) | (go_at_call 51; refine zf (zn9 (by have:=HB.out; have:=HM.out; have:=HZ.out; omega) (by have:=HB.out; omega)) ?_; rintro e w1 ⟨rfl,_⟩)))))
   go_wp2_with fail
   go_roundw
   case rel=>exact ⟨i+1,rfl,by rw [HE.out],hin,zaa⟩
   case measure=>simp [intOf]; omega
  ·have hlt : decide ((i : Int) < (n : Int)) = false := by simp; omega
   have hlt':¬ (i:Int) < (n:Int):=by omega
   obtain rfl:i=n:=by omega
   go_wp2_with fail
   go_ret
   exact ⟨rfl,zaa⟩
end
section
variable {A:Option Addr} {c n:Nat} {w:World}
def fewLB (L:List (List UInt8)) (m d:Nat):Bool:=decide (L.length <= m) && L.all fun x=>decide (fewP x d)
theorem zrN {L:List (List UInt8)} {m d:Nat} (hs:SAt w A L) (hl:L.length=n) (hn:n < 2 ^ 63) (hd:d <= 1000):
  Calls Tryz.prog 49 #[.slice A n c,.int .i64 (m:Int),.int .i64 (d:Int)] w (PRet w (.bool (fewLB L m d))):=by
 have hc:∀ (i:Nat) (x:List UInt8),L[i]?=some x -> ∀ w',Nxt w w' -> ∃ ad,A=some ad/\w'.cell? (ad.add i)=some (str x):=fun i x hx w' hn=>(SAt.nxt hs hn) i x hx
 have HC:=zc hc; have HN:=zc hn; have HL:=zc hl
 clear hc hn hl hs
 have HD:=zc hd
 clear hd
 by_cases hm:n <= m
 ·have hgt : decide ((m : Int) < (n : Int)) = false := by simp; omega
  have hgt':¬ (m:Int) < (n:Int):=by omega
  have HM:=zc hm
  clear hm
  go_enter Tryz.func49,Tryz.ntmps49
  go_wp2_with fail
  go_loopw [7] (fun s7 wr=>∃ i:Nat,s7 = .int .i64 (i:Int)/\i <= n/\(∀ (j:Nat) (y:List UInt8),j < i -> L[j]?=some y -> fewP y d)/\Nxt w wr) (fun s7 _=>n - (intOf s7).toNat)
  case atStart=>exact ⟨0,rfl,Nat.zero_le _,fun _ _ h=>absurd h (by omega),zaa⟩
  case round=>
   obtain ⟨i,rfl,hi,hok,hx0⟩:=hrel
   have HO:=zc hok
   clear hok
   by_cases hin:i < n
   ·have hlt : decide ((i : Int) < (n : Int)) = true := by simp; omega
    have hlt':(i:Int) < (n:Int):=by omega
    have hadd:IntKind.i64.wrap ((i:Int)+1)=((i+1:Nat):Int):=by have:=HN.out; rw [zx]; omega
    obtain ⟨x,hx⟩:∃ x,L[i]?=some x:=⟨L[i]'(by rw [HL.out]; exact hin),zg _⟩
    obtain ⟨ad,rfl,k3⟩:=HC.out i x hx wr hx0
    have HX:=zc hx
    have HK:Hid (∀ w,Calls _ _ _ w _):=zc (fun w=>zoB (l:=x) (d:=d) (w:=w) HD.out)
    clear hx
    by_cases hz:fewP x d
    ·have hdz : decide (fewP x d) = true := by simpa using hz
     rw [hdz] at HK
     have HZ:=zc hz
     clear hz hdz
     go_wp2_with fail
     refine zf (HK.out _) ?_
     rintro e w1 ⟨rfl,hx1⟩
     go_wp2_with fail
     go_roundw
     case rel=>exact ⟨i+1,rfl,hin,fun j y hj hy=>by
      rcases Nat.lt_or_ge j i with h | h
      ·exact HO.out j y h hy
      ·obtain rfl : j = i := by omega
       rw [HX.out] at hy; rw [<- zl hy]; exact HZ.out,zaa⟩
     case measure=>simp [intOf]; omega
    ·have hdz : decide (fewP x d) = false := by simpa using hz
     rw [hdz] at HK
     have HZ:=zc hz
     clear hz hdz
     go_wp2_with fail
     refine zf (HK.out _) ?_
     rintro e w1 ⟨rfl,hx1⟩
     go_wp2_with fail
     go_ret
     exact ⟨by rw [show fewLB L m d=false by
      unfold fewLB
      rw [Bool.and_eq_false_iff]
      right
      rw [List.all_eq_false]
      exact ⟨x,zk HX.out,by simpa using HZ.out⟩]; rfl,zaa⟩
   ·have hlt : decide ((i : Int) < (n : Int)) = false := by simp; omega
    have hlt':¬ (i:Int) < (n:Int):=by omega
    go_wp2_with fail
    go_ret
    exact ⟨by rw [show fewLB L m d=true by
     unfold fewLB
     rw [Bool.and_eq_true]
     refine ⟨by have:=HM.out; have:=HL.out; simp; omega,List.all_eq_true.2 fun x hx=>?_⟩
     obtain ⟨j,hj⟩:=List.mem_iff_getElem?.1 hx
     have:=(zh.1 hj).1
     simpa using HO.out j x (by have:=HL.out; omega) hj]; rfl,zaa⟩
 ·have hgt : decide ((m : Int) < (n : Int)) = true := by simp; omega
  have hgt':(m:Int) < (n:Int):=by omega
  have HV:=zc (show fewLB L m d=false by
   unfold fewLB
   rw [Bool.and_eq_false_iff]
   left
   have:=HL.out
   simp; omega)
  clear hm
  go_enter Tryz.func49,Tryz.ntmps49
  go_wp2_with fail
  go_ret
  exact ⟨by rw [HV.out]; rfl,zaa⟩
def fewMB (rows:List (List (List UInt8))) (r m d:Nat):Bool:=decide (rows.length <= r) && rows.all fun row=>decide (row.length=(rows.headD []).length) && fewLB row m d
theorem zrB {rows:List (List (List UInt8))} {p m d:Nat} (hm:MAt w A rows) (hl:rows.length=n) (hn:n < 2 ^ 63) (hr:∀ r ∈ rows,r.length < 2 ^ 63) (hd:d <= 1000):
  Calls Tryz.prog 48 #[.slice A n c,.int .i64 (p:Int),.int .i64 (m:Int),.int .i64 (d:Int)] w (PRet w (.bool (fewMB rows p m d))):=by
 have hc:∀ (i:Nat) (r:List (List UInt8)),rows[i]?=some r -> ∀ w',Nxt w w' -> ∃ ad B k d,A=some ad/\CellAt w' (ad.add i) (.slice B k d)/\r.length=k/\SAt w' B r:=fun i r hr w' hn=>by
  obtain ⟨ad,B,k,d,h1,h2,h3,h4⟩:=(MAt.nxt hm hn) i r hr
  exact ⟨ad,B,k,d,h1,⟨h2⟩,h3,h4⟩
 have HC:=zc hc; have HN:=zc hn; have HL:=zc hl
 clear hc hn hl hm
 have HR:=zc hr; have HD:=zc hd
 clear hr hd
 by_cases hp:n <= p
 ·have hgt : decide ((p : Int) < (n : Int)) = false := by simp; omega
  have hgt':¬ (p:Int) < (n:Int):=by omega
  have HP:=zc hp
  obtain ⟨f,hf⟩:∃ f,(rows.headD []).length=f:=⟨_,rfl⟩
  have HF:=zc hf
  clear hp hf
  go_enter Tryz.func48,Tryz.ntmps48
  go_wp2_with fail
  go_loopw [9] (fun s9 wr=>∃ i:Nat,s9 = .int .i64 (i:Int)/\i <= n/\(∀ (j:Nat) (y:List (List UInt8)),j < i -> rows[j]?=some y -> y.length=f/\fewLB y m d=true)/\Nxt w wr) (fun s9 _=>n - (intOf s9).toNat)
  case atStart=>exact ⟨0,rfl,Nat.zero_le _,fun _ _ h=>absurd h (by omega),zaa⟩
  case round=>
   obtain ⟨i,rfl,hi,hok,hx0⟩:=hrel
   have HO:=zc hok
   clear hok
   by_cases hin:i < n
   ·have hlt : decide ((i : Int) < (n : Int)) = true := by simp; omega
    have hlt':(i:Int) < (n:Int):=by omega
    have hpn:decide ((0:Int) < (n:Int))=true:=by simp; omega
    have hpn':(0:Int) < (n:Int):=by omega
    have hpn2:0 < n:=by omega
    have hpn3:decide (0 < n)=true:=by simp; omega
    have hadd:IntKind.i64.wrap ((i:Int)+1)=((i+1:Nat):Int):=by have:=HN.out; rw [zx]; omega
    obtain ⟨r,hr⟩:∃ r,rows[i]?=some r:=⟨rows[i]'(by rw [HL.out]; exact hin),zg _⟩
    obtain ⟨r0,hr0⟩:∃ r0,rows[0]?=some r0:=⟨rows[0]'(by rw [HL.out]; omega),zg _⟩
    obtain ⟨ad,B,k,e,rfl,k3,hk,hB⟩:=HC.out i r hr wr hx0
    obtain ⟨ad0,B0,k0,d0,e0,k30,hk0,hB0⟩:=HC.out 0 r0 hr0 wr hx0
    obtain rfl:ad=ad0:=zl e0
    rw [zrf] at k30
    have hk0f:k0=f:=by
     rw [<- hk0,<- HF.out]
     cases hrs:rows with
     | nil=>rw [hrs] at hr0; simp at hr0
     | cons a l=>rw [hrs] at hr0; simp at hr0; rw [hr0]; rfl
    subst hk0f
    have HX:=zc hr; have HKK:=zc hk
    have hkl:k < 2 ^ 63:=by rw [<- hk]; exact HR.out r (zk hr)
    have HK:Hid (∀ w',Nxt wr w' -> Calls _ _ _ w' _):=zc (fun w' hn=>zrN (c:=e) (m:=m) (d:=d) (SAt.nxt hB hn) hk hkl HD.out)
    have hbad:¬ (k=k0/\fewLB r m d=true) -> fewMB rows p m d=false:=fun h=>by
     unfold fewMB
     rw [Bool.and_eq_false_iff]
     right
     rw [List.all_eq_false]
     exact ⟨r,zk HX.out,by rw [HF.out,HKK.out]; simpa using h⟩
    have HBD:=zc hbad
    clear hr hr0 hk0 hB hB0 hk hkl hbad
    by_cases c2:k=k0
    ·have y2 : ((k : Int) != (k0 : Int)) = false := by simp; omega
     obtain ⟨F,hF⟩:∃ F,fewLB r m d=F:=⟨_,rfl⟩
     rw [hF] at HK HBD
     have HFF:=zc hF; have HC2:=zc c2
     clear c2 hF
     go_wp2_with fail
     (refine Code.nameW ?_; intro W hW; go_region_held3 (fun w'=>ButO W [] w') (exact zab) ((go_at_call 49; refine zf (HK.out _ zaa) ?_; rintro e w1 ⟨rfl,_⟩)))
     cases F
     ·go_wp2_with fail
      go_ret
      exact ⟨by rw [HBD.out (by simp)]; rfl,zaa⟩
     ·go_wp2_with fail
      go_roundw
      case rel=>exact ⟨i+1,rfl,hin,fun j y hj hy=>by
       rcases Nat.lt_or_ge j i with h | h
       ·exact HO.out j y h hy
       ·obtain rfl : j = i := by omega
        rw [HX.out] at hy; rw [<- zl hy]; exact ⟨HKK.out.trans HC2.out,HFF.out⟩,zaa⟩
      case measure=>simp [intOf]; omega
    ·have y2 : ((k : Int) != (k0 : Int)) = true := by simp; omega
     have HZ:=zc (HBD.out (fun h=>c2 h.1))
     clear c2
     go_wp2_with fail
     go_quiet (fail)
     go_wp2_with fail
     go_ret
     exact ⟨by rw [HZ.out]; rfl,zaa⟩
   ·have hlt : decide ((i : Int) < (n : Int)) = false := by simp; omega
    have hlt':¬ (i:Int) < (n:Int):=by omega
    go_wp2_with fail
    go_ret
    exact ⟨by rw [show fewMB rows p m d=true by
     unfold fewMB
     rw [Bool.and_eq_true]
     refine ⟨by have:=HP.out; have:=HL.out; simp; omega,List.all_eq_true.2 fun x hx=>?_⟩
     obtain ⟨j,hj⟩:=List.mem_iff_getElem?.1 hx
     have:=(zh.1 hj).1
     obtain ⟨a,b⟩:=HO.out j x (by have:=HL.out; omega) hj
     rw [HF.out,a,b]; simp]; rfl,zaa⟩
 ·have hgt : decide ((p : Int) < (n : Int)) = true := by simp; omega
  have hgt':(p:Int) < (n:Int):=by omega
  have HV:=zc (show fewMB rows p m d=false by
   unfold fewMB
   rw [Bool.and_eq_false_iff]
   left
   have:=HL.out
   simp; omega)
  clear hp
  go_enter Tryz.func48,Tryz.ntmps48
  go_wp2_with fail
  go_ret
  exact ⟨by rw [HV.out]; rfl,zaa⟩
end
def qM (rows:List (List (List UInt8))):List (List Rat):=rows.map fun r=>r.map readQ
theorem zs4 {rows:List (List (List UInt8))} {n:Nat} (h:∀ r ∈ rows,r.length=n):∀ r ∈ qM rows,r.length=n:=fun r hr=>by
 obtain ⟨x,hx,rfl⟩:=List.mem_map.1 hr
 rw [List.length_map]; exact h x hx
theorem zrD {rows:List (List (List UInt8))}:(qM rows).length=rows.length:=List.length_map ..
theorem zse (rows:List (List (List UInt8))):zbg rows=(qM rows).map zb8:=by
 unfold zbg qM; rw [List.map_map]; rfl
theorem zs3 {rows:List (List (List UInt8))} {i:Nat} {r:List (List UInt8)} (h:rows[i]?=some r):(qM rows).getD i []=r.map readQ:=za3 (by unfold qM; rw [List.getElem?_map,h]; rfl)
theorem zsh {rows:List (List (List UInt8))} {m:Nat} (hm:∀ r ∈ rows,r.length=m) (he:(rows.headD []).length=m):RkIs m rows.length (qR (qM rows)) (rankZ rows):=by
 have h:=zsP (zs4 hm)
 rw [zrD] at h
 unfold rankZ
 rw [he,zse]; exact h
theorem zrm (P Q:List Rat):∀ k,dotL P Q k=rsum k (fun i=>P.getD i 0 * Q.getD i 0)
 | 0=>rfl
 | k+1=>by unfold dotL rsum; rw [zrm P Q k]
theorem zso {x:List Rat} {R:List (List Rat)} {j:Nat} {Q:List Rat}:∀ k,(∀ i,i < k -> (R.getD i []).getD j 0=Q.getD i 0) -> dotQ x R j k=dotL x Q k
 | 0,_=>rfl
 | k+1,h=>by unfold dotQ dotL; rw [zso k (fun i hi=>h i (by omega)),h k (by omega)]
def colT (xs:List (List UInt8)):List (List (List UInt8)):=xs.map fun x=>[x]
theorem zti {xs:List (List UInt8)} {i:Nat}:((qM (colT xs)).getD i []).getD 0 0=(xs.map readQ).getD i 0:=by
 have e:(qM (colT xs)).getD i []=match xs[i]? with
  | some x=>[readQ x]
  | none=>[]:=by
  unfold qM colT
  rw [List.map_map,List.getD_eq_getElem?_getD,List.getElem?_map]
  cases xs[i]? <;> rfl
 rw [e,List.getD_eq_getElem?_getD (l:=xs.map readQ),List.getElem?_map]
 cases xs[i]? <;> rfl
theorem zrT {rows:List (List (List UInt8))} {xs:List (List UInt8)} {i:Nat} {r:List (List UInt8)} (h:rows[i]?=some r):mulF rows (colT xs) i 0=dotL (r.map readQ) (xs.map readQ) xs.length:=by
 unfold mulF
 rw [za3 h,show (colT xs).length=xs.length by simp [colT]]
 exact zso _ fun k _=>zti
theorem eqM_q {rows:List (List (List UInt8))} {b:List (List UInt8)} (h:b.length=rows.length):qM (eqM rows b)=augR (qM rows) (b.map readQ):=by
 unfold qM eqM augR
 rw [List.map_map,List.length_map]
 refine List.map_congr_left fun i hi=>?_
 have hi:=List.mem_range.1 hi
 show (rows.getD i [] ++ [b.getD i []]).map readQ=_
 rw [List.map_append,za3 (zg hi),za3 (l:=rows.map fun r=>r.map readQ) (d:=[]) (by rw [List.getElem?_map,zg hi]; rfl),za3 (l:=b) (d:=[]) (zg (by omega:i < b.length)),za3 (l:=b.map readQ) (d:=0) (by rw [List.getElem?_map,zg (by omega:i < b.length)]; rfl)]
 rfl
theorem ztc {rows:List (List (List UInt8))} {b:List (List UInt8)} {m:Nat} {x:Nat -> Rat} (hm:∀ r ∈ rows,r.length=m) (he:(rows.headD []).length=m) (hm0:0 < m) (hl:b.length=rows.length)
  (hb:∀ i,i < rows.length -> (b.map readQ).getD i 0=rsum m (fun j=>qR (qM rows) i j * x j)):(solOk rows b=true ↔ rankZ rows=m)/\(rankZ rows=m -> ∀ j,j < m -> solF rows b 0 j=x j):=by
 obtain ⟨s,hs⟩:∃ s,solS rows b=s:=⟨_,rfl⟩
 have h:=ztn (rows:=qM rows) (b:=b.map readQ) (x:=x) (zs4 hm) (by rw [zrD]; exact zsh hm he) (S:=s) (by rw [<- hs]; unfold solS; rw [he,zse,eqM_q hl]) (fun i hi=>hb i (by rw [zrD] at hi; exact hi))
 unfold solOk solF
 rw [hs,he]
 constructor
 ·rw [Bool.and_eq_true, beq_iff_eq, beq_iff_eq, h.1]
  constructor
  ·exact fun h2=>h2.1
  ·exact fun h2=>⟨h2,(h.2 h2 (m - 1) (by omega)).1⟩
 ·intro h2 j hj
  rw [Rat.divInt_eq_div]; exact (h.2 h2 j hj).2
theorem zrS {n k:Nat} (o x:Nat -> Rat) (M:Nat -> Nat -> Rat):rsum n (fun l=>rsum k (fun i=>o i * M i l) * x l)=rsum k (fun i=>o i * rsum n (fun l=>M i l * x l)):=by
 rw [zq9 (g:=fun l=>rsum k (fun i=>o i * M i l * x l)) (fun l _=>(zrh _ _ _).symm),zru]
 exact zq9 fun i _=>by rw [<- zrj]; exact zq9 fun l _=>by rw [Rat.mul_assoc]
theorem zrI {q:Rat} {N D:Nat} (h:Bn q N D) (hN:N < 10 ^ 600) (hD:D < 10 ^ 600):Fits q:=by
 constructor
 ·rw [Lib.decDigits_length]; exact zdk (by omega) (Nat.lt_of_le_of_lt h.num hN)
 ·rw [Lib.decDigits_length]; exact zdk (by omega) (Nat.lt_of_le_of_lt h.den hD)
theorem sz_bn {q:Rat} {N D k:Nat} (h:Bn q N D) (hN:N < B64 ^ k) (hD:D < B64 ^ k):Sz q k:=⟨zaf (Nat.lt_of_le_of_lt h.num hN),zaf (Nat.lt_of_le_of_lt h.den hD)⟩
theorem zsH {x:List UInt8} (h:fewP x 4):Bn (readQ x) (2 ^ 16) (2 ^ 16):=by
 obtain ⟨_,_,h1,h2⟩:=h
 have a:=zn8 (readQ x).num.natAbs
 have b:=zn8 (readQ x).den
 exact ⟨Nat.le_of_lt (Nat.lt_of_lt_of_le (zfB _) (Nat.pow_le_pow_right (by omega) (by omega))),Nat.le_of_lt (Nat.lt_of_lt_of_le (zfB _) (Nat.pow_le_pow_right (by omega) (by omega)))⟩
theorem zrn {rows:List (List (List UInt8))} {p m d:Nat} (h:fewMB rows p m d=true):rows.length <= p/\∀ r ∈ rows,r.length <= m/\∀ x ∈ r,fewP x d:=by
 unfold fewMB at h
 rw [Bool.and_eq_true] at h
 refine ⟨of_decide_eq_true h.1,fun r hr=>?_⟩
 have h2:=List.all_eq_true.1 h.2 r hr
 rw [Bool.and_eq_true] at h2
 have h3:=h2.2
 unfold fewLB at h3
 rw [Bool.and_eq_true] at h3
 exact ⟨of_decide_eq_true h3.1,fun x hx=>of_decide_eq_true (List.all_eq_true.1 h3.2 x hx)⟩
theorem zrC {L:List (List UInt8)} {m d:Nat} (h:fewLB L m d=true):L.length <= m/\∀ x ∈ L,fewP x d:=by
 unfold fewLB at h
 rw [Bool.and_eq_true] at h
 exact ⟨of_decide_eq_true h.1,fun x hx=>of_decide_eq_true (List.all_eq_true.1 h.2 x hx)⟩
theorem zrV {rows:List (List (List UInt8))} {m:Nat} (h:MOk rows m):matE rows=0:=by
 have e:(rows.headD []).length=m:=by
  cases hr:rows with
  | nil=>have:=h.pos; rw [hr] at this; simp at this
  | cons a l=>exact h.cols a (by rw [hr]; exact List.mem_cons_self ..)
 unfold matE
 have c0:cntE rows.length=0:=by have:=h.pos; have:=h.le; unfold cntE; rw [if_neg (by omega),if_neg (by omega)]
 rw [if_neg (fun h2=>h2 c0),e]
 refine zcd fun x hx=>?_
 obtain ⟨r,hr,rfl⟩:=List.mem_map.1 hx
 unfold rowE
 have c1:cntE r.length=0:=by have:=h.cols r hr; have:=h.mpos; have:=h.mle; unfold cntE; rw [if_neg (by omega),if_neg (by omega)]
 rw [if_neg (fun h2=>h2 c1),if_neg (fun h2=>h2 (h.cols r hr))]
 refine zcd fun y hy=>?_
 obtain ⟨x,hx,rfl⟩:=List.mem_map.1 hy
 exact h.ok r hr x hx
theorem zrx {rows:List (List (List UInt8))} {m:Nat} (h:MOk rows m):(rows.headD []).length=m:=by
 cases hr:rows with
 | nil=>have:=h.pos; rw [hr] at this; simp at this
 | cons a l=>exact h.cols a (by rw [hr]; exact List.mem_cons_self ..)
theorem zsL {xs:List (List UInt8)} (h0:0 < xs.length) (h1:xs.length <= 64) (hr:∀ x ∈ xs,readE x=0):MOk (colT xs) 1:=
 ⟨by simpa [colT] using h0, by simpa [colT] using h1, fun r hr => by
  obtain ⟨x,_,rfl⟩:=List.mem_map.1 hr; rfl,by omega,by omega,fun r hr2 x hx=>by
  obtain ⟨y,hy,rfl⟩:=List.mem_map.1 hr2
  rw [List.mem_singleton.1 hx]; exact hr y hy⟩
def texM (F:Nat -> Nat -> Rat) (n m:Nat):List (List (List UInt8)):=(List.range n).map (trow F m)
theorem zrd {F:Nat -> Nat -> Rat} {n m:Nat}:(texM F n m).length=n:=by simp [texM]
theorem zsR {F:Nat -> Nat -> Rat} {n m i:Nat} (h:i < n):(texM F n m)[i]?=some (trow F m i):=by unfold texM; rw [List.getElem?_map,List.getElem?_range h]; rfl
theorem zsf {F:Nat -> Nat -> Rat} {m i:Nat}:(trow F m i).length=m:=by simp [trow]
theorem zs9 {F:Nat -> Nat -> Rat} {m i j:Nat} (h:j < m):(trow F m i)[j]?=some (zad (F i j)):=by unfold trow; rw [List.getElem?_map,List.getElem?_range h]; rfl
theorem zsS {F:Nat -> Nat -> Rat} {n m:Nat} (h0:0 < n) (h1:n <= 64) (h2:0 < m) (h3:m <= 64) (hf:∀ i j,i < n -> j < m -> Fits (F i j)):MOk (texM F n m) m:=
 ⟨by rw [zrd]; exact h0, by rw [zrd]; exact h1, fun r hr => by
  obtain ⟨i,_,rfl⟩:=List.mem_map.1 hr; exact zsf,h2,h3,fun r hr x hx=>by
  obtain ⟨i,hi,rfl⟩:=List.mem_map.1 hr
  obtain ⟨j,hj,rfl⟩:=List.mem_map.1 hx
  exact (zoj (hf i j (List.mem_range.1 hi) (List.mem_range.1 hj))).1⟩
theorem ztk {F:Nat -> Nat -> Rat} {m i:Nat} (hf:∀ j,j < m -> Fits (F i j)) {j:Nat} (hj:j < m):((trow F m i).map readQ).getD j 0=F i j:=
 za3 (by rw [List.getElem?_map,zs9 hj]; show some (readQ (zad (F i j)))=_; rw [(zoj (hf j hj)).2])
theorem zrQ {F:Nat -> Nat -> Rat} {n:Nat}:texM F n 1=colT ((List.range n).map fun i=>zad (F i 0)):=by
 unfold texM colT
 rw [List.map_map]
 exact List.map_congr_left fun i _=>rfl
theorem zsz {q:Rat} (h:Fits q):(zad q).length < 2 ^ 40:=by
 unfold zad itoaZ
 have h1:=h.1
 have h2:=h.2
 split
 ·split <;> simp <;> omega
 ·split <;> simp <;> omega
theorem zsj {ra rb:List (List (List UInt8))} {i j:Nat} {r:List (List UInt8)} (h:ra[i]?=some r):mulF ra rb i j=rsum rb.length (fun k=>(r.map readQ).getD k 0 * qR (qM rb) k j):=by
 unfold mulF
 rw [za3 h]
 show dotQ (r.map readQ) (qM rb) j rb.length=_
 have e:∀ k,dotQ (r.map readQ) (qM rb) j k=rsum k (fun l=>(r.map readQ).getD l 0 * qR (qM rb) l j):=fun k=>by
  induction k with
  | zero=>rfl
  | succ k ih=>unfold dotQ rsum; rw [ih]; rfl
 exact e _
theorem bn_at {qs:List Rat} {N D j:Nat} (h:∀ q ∈ qs,Bn q N D) (hN:1 <= D):Bn (qs.getD j 0) N D:=by
 rw [List.getD_eq_getElem?_getD]
 cases hq:qs[j]? with
 | none=>exact zsM.mono (Nat.zero_le _) hN
 | some q=>exact h q (zk hq)
theorem zrU {ra rb:List (List (List UInt8))} {i j N D N' D':Nat} (ha:∀ r ∈ ra,∀ x ∈ r,Bn (readQ x) N D) (hb:∀ r ∈ rb,∀ x ∈ r,Bn (readQ x) N' D') (hD:1 <= D) (hD':1 <= D') (hi:i < ra.length):Bn (mulF ra rb i j) (bnS (N * N') (D * D') rb.length).1 (bnS (N * N') (D * D') rb.length).2:=by
 rw [zsj (zg hi)]
 refine zs5 _ fun k hk=>(bn_at (fun q hq=>?_) hD).mul ?_
 ·obtain ⟨x, hx, rfl⟩ := List.mem_map.1 hq
  exact ha _ (List.getElem_mem hi) x hx
 ·unfold qR qM
  rw [List.getD_eq_getElem?_getD (l:=rb.map fun r=>r.map readQ),List.getElem?_map,zg hk]
  refine bn_at (fun q hq=>?_) hD'
  obtain ⟨x,hx,rfl⟩:=List.mem_map.1 hq
  exact hb _ (List.getElem_mem hk) x hx
theorem zsq {N D k m:Nat} (hD:1 <= D) (h:k <= m) {q:Rat} (hq:Bn q (bnS N D k).1 (bnS N D k).2):Bn q (bnS N D m).1 (bnS N D m).2:=by
 obtain ⟨a,b⟩:=zsp (N:=N) (D:=D) hD h
 exact hq.mono a b
theorem num_p:bnS (2 ^ 16 * 2 ^ 16) (2 ^ 16 * 2 ^ 16) 4=(4 * 2 ^ 128,2 ^ 128):=by decide +kernel
theorem num_q:bnS (2 ^ 16 * (4 * 2 ^ 128)) (2 ^ 16 * 2 ^ 128) 4=(16 * 2 ^ 576,2 ^ 576):=by decide +kernel
theorem num_r:bnS (4 * 2 ^ 128 * 2 ^ 16) (2 ^ 128 * 2 ^ 16) 4=(16 * 2 ^ 576,2 ^ 576):=by decide +kernel
theorem ztf {n r k:Nat} {Q:Nat -> Nat -> Rat} (h:RkIs n r Q k):k <= n:=by
 obtain ⟨E,p,h1,_,_⟩:=h
 rcases Nat.eq_zero_or_pos k with h0 | h0
 ·omega
 ·have := zsN h1.inc (k - 1) (by omega)
  have:=h1.lt (k - 1) (by omega)
  omega
structure EqC (rm ro:List (List (List UInt8))) (xs:List (List UInt8)):Prop where
 m:matE rm=0
 o:matE ro=0
 fm:fewMB rm 4 4 4=true
 fo:fewMB ro 4 4 4=true
 k:xs.length=(rm.headD []).length
 fx:fewLB xs 4 4=true
section
variable {rm ro:List (List (List UInt8))} {xs:List (List UInt8)} (h:EqC rm ro xs)
include h
theorem EqC.mok:MOk rm xs.length:=by rw [h.k]; exact zfz h.m
theorem EqC.ook:MOk ro (ro.headD []).length:=zfz h.o
theorem EqC.sizes:0 < rm.length/\rm.length <= 4/\0 < ro.length/\ro.length <= 4/\0 < xs.length/\xs.length <= 4/\0 < (ro.headD []).length:=
 ⟨h.mok.pos,(zrn h.fm).1,h.ook.pos,(zrn h.fo).1,h.mok.mpos,(zrC h.fx).1,h.ook.mpos⟩
theorem EqC.bm:∀ r ∈ rm,∀ x ∈ r,Bn (readQ x) (2 ^ 16) (2 ^ 16):=fun r hr x hx=>zsH (((zrn h.fm).2 r hr).2 x hx)
theorem EqC.bo:∀ r ∈ ro,∀ x ∈ r,Bn (readQ x) (2 ^ 16) (2 ^ 16):=fun r hr x hx=>zsH (((zrn h.fo).2 r hr).2 x hx)
theorem EqC.bx:∀ x ∈ xs,Bn (readQ x) (2 ^ 16) (2 ^ 16):=fun x hx=>zsH ((zrC h.fx).2 x hx)
theorem EqC.rx:∀ x ∈ xs,readE x=0:=fun x hx=>((zrC h.fx).2 x hx).2.1
theorem EqC.colok:MOk (colT xs) 1:=zsL h.sizes.2.2.2.2.1 (by have:=h.sizes; omega) h.rx
theorem EqC.mulE1:mulE rm (colT xs)=0:=by
 unfold mulE
 rw [h.m,zrV h.colok]
 show (if (0:Int) ≠ 0 then _ else if (rm.headD []).length ≠ (colT xs).length then _ else _)=_
 rw [if_neg (by decide),if_neg (by rw [<- h.k]; simp [colT])]
theorem EqC.bF (i j:Nat) (hi:i < rm.length):Bn (mulF rm (colT xs) i j) (4 * 2 ^ 128) (2 ^ 128):=by
 have h1:=zrU (ra:=rm) (rb:=colT xs) (i:=i) (j:=j) h.bm (fun r hr x hx=>by
  obtain ⟨y,hy,rfl⟩:=List.mem_map.1 hr
  rw [List.mem_singleton.1 hx]; exact h.bx y hy) (by decide) (by decide) hi
 have h2:=zsq (by decide) (show (colT xs).length <= 4 by have:=h.sizes; simp [colT]; omega) h1
 rw [num_p] at h2; exact h2
theorem EqC.fF (i j:Nat) (hi:i < rm.length) (_:j < 1):Fits (mulF rm (colT xs) i j):=zrI (h.bF i j hi) (by decide +kernel) (by decide +kernel)
def prodT (rm:List (List (List UInt8))) (xs:List (List UInt8)):List (List UInt8):=(List.range rm.length).map fun i=>zad (mulF rm (colT xs) i 0)
omit h in
theorem zrb:(prodT rm xs).length=rm.length:=by simp [prodT]
omit h in
theorem zsi {i:Nat} (hi:i < rm.length):(prodT rm xs)[i]?=some (zad (mulF rm (colT xs) i 0)):=by unfold prodT; rw [List.getElem?_map,List.getElem?_range hi]; rfl
theorem EqC.pread:∀ x ∈ prodT rm xs,readE x=0/\Bn (readQ x) (4 * 2 ^ 128) (2 ^ 128):=fun x hx=>by
 obtain ⟨i,hi,rfl⟩:=List.mem_map.1 hx
 have hi:=List.mem_range.1 hi
 obtain ⟨a,b⟩:=zoj (h.fF i 0 hi (by omega))
 exact ⟨a,by rw [b]; exact h.bF i 0 hi⟩
theorem EqC.plen:∀ x ∈ prodT rm xs,x.length < 2 ^ 40:=fun x hx=>by
 obtain ⟨i,hi,rfl⟩:=List.mem_map.1 hx
 exact zsz (h.fF i 0 (List.mem_range.1 hi) (by omega))
theorem EqC.pq (i:Nat) (hi:i < rm.length):((prodT rm xs).map readQ).getD i 0=mulF rm (colT xs) i 0:=za3 (by
 rw [List.getElem?_map,zsi hi]; show some (readQ (zad _))=_; rw [(zoj (h.fF i 0 hi (by omega))).2])
theorem EqC.row (i:Nat) (r:List (List UInt8)) (hr:rm[i]?=some r):mulF rm (colT xs) i 0=dotL (r.map readQ) (xs.map readQ) xs.length:=zrT hr
theorem EqC.psz:∀ x ∈ prodT rm xs,Sz (readQ x) 3:=fun x hx=>sz_bn (h.pread x hx).2 (by decide +kernel) (by decide +kernel)
theorem EqC.msz:∀ r ∈ rm,∀ x ∈ r,Sz (readQ x) 3:=fun r hr x hx=>sz_bn (h.bm r hr x hx) (by decide +kernel) (by decide +kernel)
theorem EqC.solE1:solE rm (prodT rm xs)=if solOk rm (prodT rm xs) then 0 else 14:=by
 unfold solE
 have e:or2 (matE rm) (zay ((prodT rm xs).map readE))=0:=by
  rw [h.m,zcd (fun y hy=>by obtain ⟨x,hx,rfl⟩:=List.mem_map.1 hy; exact (h.pread x hx).1)]; rfl
 rw [e,if_neg (by decide),if_neg (by rw [zrb]; omega)]
theorem EqC.rk:RkIs xs.length rm.length (qR (qM rm)) (rankZ rm):=zsh h.mok.cols h.k.symm
theorem EqC.sol:(solOk rm (prodT rm xs)=true ↔ rankZ rm=xs.length)/\(rankZ rm=xs.length -> ∀ j,j < xs.length -> solF rm (prodT rm xs) 0 j=(xs.map readQ).getD j 0):=
 ztc h.mok.cols h.k.symm h.mok.mpos zrb (fun i hi=>by
  obtain ⟨r,hr⟩:∃ r,rm[i]?=some r:=⟨_,zg hi⟩
  rw [h.pq i hi,h.row i r hr,zrm]
  exact zq9 fun j _=>by unfold qR; rw [zs3 hr])
theorem EqC.rank_le:rankZ rm <= xs.length:=ztf h.rk
theorem EqC.solT (hr:rankZ rm=xs.length):(∀ i j,i < 1 -> j < xs.length -> Fits (solF rm (prodT rm xs) i j))/\trow (solF rm (prodT rm xs)) xs.length 0=xs:=by
 have hs:=h.sol.2 hr
 have hx:∀ j,j < xs.length -> ∃ x,xs[j]?=some x/\solF rm (prodT rm xs) 0 j=readQ x/\x ∈ xs:=fun j hj=>by
  refine ⟨xs[j],zg hj,?_,List.getElem_mem hj⟩
  rw [hs j hj]
  exact za3 (by rw [List.getElem?_map,zg hj]; rfl)
 constructor
 ·intro i j hi hj
  obtain rfl:i=0:=by omega
  obtain ⟨x,_,e,hm⟩:=hx j hj
  rw [e]; exact zrI (h.bx x hm) (by decide +kernel) (by decide +kernel)
 ·exact (zmJ rfl fun j hj=>by
   obtain ⟨x,h1,e,hm⟩:=hx j hj
   rw [h1,e,zf8 (h.rx x hm)]).symm
theorem EqC.mulE2:mulE ro rm=if (ro.headD []).length ≠ rm.length then 2 else 0:=by
 unfold mulE
 rw [h.m,h.o]
 show (if (0:Int) ≠ 0 then _ else _)=_
 rw [if_neg (by decide)]
theorem EqC.bG (i j:Nat) (hi:i < ro.length):Bn (mulF ro rm i j) (4 * 2 ^ 128) (2 ^ 128):=by
 have h2:=zsq (by decide) (show rm.length <= 4 by have:=h.sizes; omega) (zrU (ra:=ro) (rb:=rm) (i:=i) (j:=j) h.bo h.bm (by decide) (by decide) hi)
 rw [num_p] at h2; exact h2
theorem EqC.fG (i j:Nat) (hi:i < ro.length) (_:j < xs.length):Fits (mulF ro rm i j):=zrI (h.bG i j hi) (by decide +kernel) (by decide +kernel)
theorem EqC.gok:MOk (texM (mulF ro rm) ro.length xs.length) xs.length:=zsS h.sizes.2.2.1 (by have:=h.sizes; omega) h.mok.mpos h.mok.mle h.fG
theorem EqC.glen:∀ r ∈ texM (mulF ro rm) ro.length xs.length,∀ x ∈ r,x.length < 2 ^ 40:=fun r hr x hx=>by
 obtain ⟨i,hi,rfl⟩:=List.mem_map.1 hr
 obtain ⟨j,hj,rfl⟩:=List.mem_map.1 hx
 exact zsz (h.fG i j (List.mem_range.1 hi) (List.mem_range.1 hj))
theorem EqC.mulE3:mulE (texM (mulF ro rm) ro.length xs.length) (colT xs)=0:=by
 unfold mulE
 rw [zrV h.gok,zrV h.colok]
 show (if (0:Int) ≠ 0 then _ else if _ ≠ (colT xs).length then _ else _)=_
 rw [if_neg (by decide),if_neg (by rw [zrx h.gok]; simp [colT])]
theorem EqC.bgr:∀ r ∈ texM (mulF ro rm) ro.length xs.length,∀ x ∈ r,Bn (readQ x) (4 * 2 ^ 128) (2 ^ 128):=fun r hr x hx=>by
 obtain ⟨i,hi,rfl⟩:=List.mem_map.1 hr
 obtain ⟨j,hj,rfl⟩:=List.mem_map.1 hx
 rw [(zoj (h.fG i j (List.mem_range.1 hi) (List.mem_range.1 hj))).2]
 exact h.bG i j (List.mem_range.1 hi)
theorem EqC.fH1 (i j:Nat) (hi:i < ro.length) (_:j < 1):Fits (mulF (texM (mulF ro rm) ro.length xs.length) (colT xs) i j):=by
 have h1:=zrU (ra:=texM (mulF ro rm) ro.length xs.length) (rb:=colT xs) (i:=i) (j:=j) h.bgr (fun r hr x hx=>by
  obtain ⟨y,hy,rfl⟩:=List.mem_map.1 hr
  rw [List.mem_singleton.1 hx]; exact h.bx y hy) (by decide +kernel) (by decide) (by rw [zrd]; exact hi)
 have h2:=zsq (by decide +kernel) (show (colT xs).length <= 4 by have:=h.sizes; simp [colT]; omega) h1
 rw [num_r] at h2
 exact zrI h2 (by decide +kernel) (by decide +kernel)
theorem EqC.pok:MOk (colT (prodT rm xs)) 1:=zsL (by rw [zrb]; exact h.mok.pos) (by rw [zrb]; exact h.mok.le) (fun x hx=>(h.pread x hx).1)
theorem EqC.mulE4 (e:(ro.headD []).length=rm.length):mulE ro (colT (prodT rm xs))=0:=by
 unfold mulE
 rw [h.o,zrV h.pok]
 show (if (0:Int) ≠ 0 then _ else if _ ≠ (colT (prodT rm xs)).length then _ else _)=_
 rw [if_neg (by decide),if_neg (by rw [e]; simp [colT,prodT])]
theorem EqC.fH2 (i j:Nat) (hi:i < ro.length) (_:j < 1):Fits (mulF ro (colT (prodT rm xs)) i j):=by
 have h1:=zrU (ra:=ro) (rb:=colT (prodT rm xs)) (i:=i) (j:=j) h.bo (fun r hr x hx=>by
  obtain ⟨y,hy,rfl⟩:=List.mem_map.1 hr
  rw [List.mem_singleton.1 hx]; exact (h.pread y hy).2) (by decide) (by decide +kernel) hi
 have h2:=zsq (by decide +kernel) (show (colT (prodT rm xs)).length <= 4 by have:=h.sizes; simp [colT,prodT]; omega) h1
 rw [num_q] at h2
 exact zrI h2 (by decide +kernel) (by decide +kernel)
theorem EqC.assoc (e:(ro.headD []).length=rm.length):texM (mulF (texM (mulF ro rm) ro.length xs.length) (colT xs)) ro.length 1=texM (mulF ro (colT (prodT rm xs))) ro.length 1:=by
 rw [zrQ,zrQ]
 congr 1
 refine List.map_congr_left fun i hi=>?_
 have hi:=List.mem_range.1 hi
 obtain ⟨r,hr⟩:∃ r,ro[i]?=some r:=⟨_,zg hi⟩
 rw [zrT (zsR hi),zrT hr,zrm,zrm,zrb]
 congr 1
 rw [zq9 (g:=fun l=>rsum rm.length (fun j=>(r.map readQ).getD j 0 * qR (qM rm) j l) * (xs.map readQ).getD l 0) (fun l hl=>by
  rw [ztk (fun j hj=>h.fG i j hi hj) hl,zsj hr]),zrS]
 exact zq9 fun j hj=>by
  obtain ⟨q,hq⟩:∃ q,rm[j]?=some q:=⟨_,zg hj⟩
  rw [h.pq j hj,h.row j q hq,zrm]
  congr 1
  exact zq9 fun l _=>by unfold qR; rw [zs3 hq]
end
theorem zr3 {w:World} {base n sz g:Nat} {t u:TypeId} {v:Value} {l:List Value} {vs:Array Value} (h:w.ownsRow base t sz v n l) (hb:Blk w g u vs) (ht:t ≠ u):v.ownBlock ≠ some g:=by
 obtain ⟨_,⟨rfl,_⟩ | ⟨g',cap,cur,rfl,_,hg,_⟩⟩:=h
 ·intro e; cases e
 ·intro e
  obtain rfl:g'=g:=by simpa [Value.ownBlock] using e
  have:=hg.symm.trans hb.out
  injection this with this
  injection this with _ this
  exact ht this
theorem zrF {w wr w':World} {base n sz:Nat} {t:TypeId} {v:Value} {l:List Value} (h:wr.ownsRow base t sz v n l) (hn:Nxt w wr) (hb:w.heap.size <= base) (hg:wr.grownBy w' v.ownBlock):Nxt w w':=
 ⟨⟨hg.os.trans hn.out.os, hg.tape.trans hn.out.tape, hg.output.trans hn.out.output, zo hn.out.size hg.size, fun g hlt =>
  (hg.block g (Nat.lt_of_lt_of_le hlt hn.out.size) (fun e=>by have:=(h.lt g e.symm).1; omega)).trans (hn.out.block g hlt)⟩⟩
theorem zrE {w w':World} {base n sz:Nat} {t:TypeId} {v:Value} {l:List Value} (h:w.ownsRow base t sz v n l) (hn:Nxt w w'):w'.ownsRow base t sz v n l:=by
 obtain ⟨h1,h2 | ⟨g,cap,cur,hv,hb,hh,hr⟩⟩:=h
 ·exact ⟨h1,Or.inl h2⟩
 ·refine ⟨h1, Or.inr ⟨g, cap, cur, hv, hb, ?_, hr⟩⟩
  have:g < w.heap.size:=by
   rcases Nat.lt_or_ge g w.heap.size with h | h
   ·exact h
   ·rw [Array.getElem?_eq_none h] at hh; cases hh
  rw [hn.out.block g this]; exact hh
structure TxI (w wr:World) (v:Value) (ts:List (List UInt8)):Prop where
 own:wr.ownsRow w.heap.size 22 1 v ts.length (ts.map str)
 nxt:Nxt w wr
structure ColI (w wr:World) (v:Value) (gs:List Nat) (ys:List (List UInt8)):Prop where
 own:wr.ownsRow w.heap.size 59 1 v ys.length (gs.map fun g => .slice (some ⟨g,0,none⟩) 1 1)
 len:gs.length=ys.length
 at_:∀ (i g:Nat) (y:List UInt8),gs[i]?=some g -> ys[i]?=some y -> Blk wr g 22 #[str y]
 nxt:Nxt w wr
theorem ColI.nil {w:World}:ColI w w (.slice none 0 0) [] []:=⟨⟨rfl,.inl ⟨rfl,rfl⟩⟩,rfl,(fun i g y h=>by simp at h),zaa⟩
theorem TxI.nil {w:World}:TxI w w (.slice none 0 0) []:=⟨⟨rfl,.inl ⟨rfl,rfl⟩⟩,zaa⟩
theorem ColI.step {w wr W w':World} {v v':Value} {gs:List Nat} {ys:List (List UInt8)} {y:List UInt8} {g:Nat} (h:ColI w wr v gs ys) (hW:Nxt wr W) (hy:Blk W g 22 #[str y])
  (ho:w'.ownsRow w.heap.size 59 1 v' (ys.length+1) (gs.map (fun g=>Value.slice (some ⟨g,0,none⟩) 1 1) ++ [.slice (some ⟨g,0,none⟩) 1 1])) (hg:W.grownBy w' v.ownBlock):ColI w w' v' (gs ++ [g]) (ys ++ [y]):=by
 have howW:=zrE h.own hW
 have hnW:Nxt w W:=⟨h.nxt.out.trans (hW.out.mono h.nxt.out.size)⟩
 have hblk:∀ {b:Nat} {vs:Array Value},Blk W b 22 vs -> Blk w' b 22 vs:=fun {b vs} hb=>⟨(hg.block b hb.lt (fun e=>zr3 howW hb (by decide) e.symm)).trans hb.out⟩
 refine ⟨by rw [List.length_append,List.map_append]; exact ho,by rw [List.length_append,List.length_append,h.len]; rfl,fun i g' y' h1 h2=>?_,zrF howW hnW (zv _) hg⟩
 by_cases hi:i < gs.length
 ·rw [List.getElem?_append_left hi] at h1
  rw [List.getElem?_append_left (by rw [<- h.len]; exact hi)] at h2
  exact hblk (Blk.nxt (h:=hW) (k:=h.at_ i g' y' h1 h2))
 ·have hi2:i=gs.length:=by
   have:=(zh.1 h1).1
   rw [List.length_append,List.length_singleton] at this; omega
  subst hi2
  rw [List.getElem?_append_right (zv _)] at h1
  rw [h.len,List.getElem?_append_right (zv _)] at h2
  simp at h1 h2
  subst h1; subst h2
  exact hblk hy
theorem TxI.step {w wr W w':World} {v v':Value} {ts:List (List UInt8)} {y:List UInt8} (h:TxI w wr v ts) (hW:Nxt wr W) (ho:w'.ownsRow w.heap.size 22 1 v' (ts.length+1) (ts.map str ++ [str y])) (hg:W.grownBy w' v.ownBlock):TxI w w' v' (ts ++ [y]):=by
 have howW:=zrE h.own hW
 have hnW:Nxt w W:=⟨h.nxt.out.trans (hW.out.mono h.nxt.out.size)⟩
 exact ⟨by rw [List.length_append,List.map_append]; exact ho,zrF howW hnW (zv _) hg⟩
theorem zsr {w:World} {g:Nat} {y:List UInt8} (h:Blk w g 22 #[str y]):SAt w (some ⟨g,0,none⟩) [y]:=fun i x hx=>by
 cases i with
 | zero=>
  obtain rfl:y=x:=by simpa using hx
  exact ⟨_,rfl,by rw [zrf]; exact (Blk.cell (k:=h) (i:=0)).trans rfl⟩
 | succ i=>simp at hx
theorem ColI.mat {w wr:World} {v:Value} {gs:List Nat} {ys:List (List UInt8)} (h:ColI w wr v gs ys):∃ A c,v = .slice A ys.length c/\MAt wr A (colT ys):=by
 obtain ⟨hl,⟨hv,hn⟩ | ⟨g,cap,cur,hv,_,hg,_,_,_,ht⟩⟩:=h.own
 ·refine ⟨none, 0, by rw [hv, hn], fun i r hr => ?_⟩
  have:=List.eq_nil_of_length_eq_zero hn
  rw [this] at hr; simp [colT] at hr
 ·refine ⟨_, cap, hv, fun i r hr => ?_⟩
  obtain ⟨y,hy,rfl⟩:∃ y,ys[i]?=some y/\[y]=r:=by
   unfold colT at hr
   rw [List.getElem?_map] at hr
   cases hy:ys[i]? with
   | none=>rw [hy] at hr; cases hr
   | some y=>rw [hy] at hr; exact ⟨y,rfl,zl hr⟩
  have hiy:=(zh.1 hy).1
  obtain ⟨gi,hgi⟩:∃ gi,gs[i]?=some gi:=⟨gs[i]'(by rw [h.len]; exact hiy),zg _⟩
  refine ⟨_,some ⟨gi,0,none⟩,1,1,rfl,?_,rfl,zsr (h.at_ i gi y hgi hy)⟩
  have e:(⟨g,0,none⟩:Addr).add i=⟨g,i,none⟩:=by unfold Addr.add; split <;> simp_all
  rw [e]
  have hb:Blk wr g 59 cur:=⟨hg⟩
  refine (Blk.cell (k:=hb) (i:=i)).trans ?_
  have h2:(gs.map fun g=>Value.slice (some ⟨g,0,none⟩) 1 1)[i]?=some (.slice (some ⟨gi,0,none⟩) 1 1):=by rw [List.getElem?_map,hgi]; rfl
  rw [<- ht,List.getElem?_take] at h2
  split at h2
  ·rw [<- Array.getElem?_toList]; exact h2
  ·cases h2
theorem TxI.sat {w wr:World} {v:Value} {ts:List (List UInt8)} (h:TxI w wr v ts) (h0:ts ≠ []):∃ ad c,v = .slice (some ad) ts.length c/\SAt wr (some ad) ts:=by
 have h1:=RowT.of_own h.own h0
 obtain ⟨g,cap,cs,hv,hb,hc⟩:=h1
 rw [hv]
 exact ⟨_,cap,rfl,(RowT.sat (l:=ts) ⟨g,cap,cs,rfl,hb,hc⟩).2⟩
section
variable {A B C:Option Addr} {n c p d k e:Nat} {rm ro:List (List (List UInt8))} {xs:List (List UInt8)} {w:World}
theorem numberEquations (HA:Hid zgf) [hg:Glo w] (hm:MAt w A rm) (ho:MAt w B ro) (hx:SAt w C xs) (ln:rm.length=n) (lp:ro.length=p) (lk:xs.length=k) (hn:n < 2 ^ 63) (hp:p < 2 ^ 63) (hk:k < 2 ^ 63)
  (hrm:∀ r ∈ rm,r.length < 2 ^ 63) (hro:∀ r ∈ ro,r.length < 2 ^ 63) (htm:∀ r ∈ rm,∀ x ∈ r,x.length < 2 ^ 63) (hto:∀ r ∈ ro,∀ x ∈ r,x.length < 2 ^ 63):
  Calls Tryz.prog 7 #[.slice A n c,.slice B p d,.slice C k e] w (fun e w'=>e = .returned (.bool true)/\Below w.heap.size w w'):=by
 have HM:=zc hm; have HO:=zc ho; have HX:=zc hx; have LN:=zc ln; have LP:=zc lp; have LK:=zc lk
 have HNN:=zc (show n < 2 ^ 63/\p < 2 ^ 63/\k < 2 ^ 63 from ⟨hn,hp,hk⟩)
 have HRM:=zc hrm; have HRO:=zc hro
 have HCM:Hid (∀ w',Nxt w w' -> Calls _ _ _ w' _):=zc (fun w' h=>zrr (c:=c) (MAt.nxt hm h) ln hn hrm htm)
 have HCO:Hid (∀ w',Nxt w w' -> Calls _ _ _ w' _):=zc (fun w' h=>zrr (c:=d) (MAt.nxt ho h) lp hp hro hto)
 have HFM:Hid (∀ w',Nxt w w' -> Calls _ _ _ w' _):=zc (fun w' h=>zrB (c:=c) (p:=4) (m:=4) (d:=4) (MAt.nxt hm h) ln hn hrm (by decide))
 have HFO:Hid (∀ w',Nxt w w' -> Calls _ _ _ w' _):=zc (fun w' h=>zrB (c:=d) (p:=4) (m:=4) (d:=4) (MAt.nxt ho h) lp hp hro (by decide))
 have HFX:Hid (∀ w',Nxt w w' -> Calls _ _ _ w' _):=zc (fun w' h=>zrN (c:=e) (m:=4) (d:=4) (SAt.nxt hx h) lk hk (by decide))
 obtain ⟨E1,hE1⟩:∃ E,matE rm=E:=⟨_,rfl⟩
 obtain ⟨E2,hE2⟩:∃ E,matE ro=E:=⟨_,rfl⟩
 obtain ⟨F1,hF1⟩:∃ E,fewMB rm 4 4 4=E:=⟨_,rfl⟩
 obtain ⟨F2,hF2⟩:∃ E,fewMB ro 4 4 4=E:=⟨_,rfl⟩
 obtain ⟨F3,hF3⟩:∃ E,fewLB xs 4 4=E:=⟨_,rfl⟩
 rw [hE1] at HCM
 rw [hE2] at HCO
 rw [hF1] at HFM
 rw [hF2] at HFO
 rw [hF3] at HFX
 have HE:=zc (show _/\_/\_/\_/\_ from ⟨hE1,hE2,hF1,hF2,hF3⟩)
 clear hm ho hx ln lp lk hn hp hk hrm hro htm hto hE1 hE2 hF1 hF2 hF3
 go_enter Tryz.func7,Tryz.ntmps7
 go_wp2_with fail
 refine (HA.out _).mono ?_
 rintro e w1 ⟨rfl,hb1⟩
 have hx1:Nxt w w1:=⟨hb1⟩
 have hw1:Nxt w w1:=zaa
 have hg1:Glo w1:=Glo.nxt (a:=w)
 clear hb1
 go_wp2_with fail
 refine zf (HCM.out _ zaa) ?_
 rintro e w2 ⟨rfl,hx2⟩
 have hw2:Nxt w w2:=zaa
 have hg2:Glo w2:=Glo.nxt (a:=w)
 by_cases h1:E1=0
 rotate_left
 ·have y1 : (E1 != 0) = true := by simpa using h1
  go_wp2_with fail
  refine (HA.out _).mono ?_
  rintro e wz ⟨rfl,hbz⟩
  have hxz:Nxt _ wz:=⟨hbz⟩
  go_wp2_with fail
  go_ret
  exact ⟨rfl,(zaa:Nxt w wz).out⟩
 subst h1
 go_wp2_with fail
 refine zf (HCO.out _ zaa) ?_
 rintro e w3 ⟨rfl,hx3⟩
 have hw3:Nxt w w3:=zaa
 have hg3:Glo w3:=Glo.nxt (a:=w)
 by_cases h2:E2=0
 rotate_left
 ·have y1 : (E2 != 0) = true := by simpa using h2
  go_wp2_with fail
  refine (HA.out _).mono ?_
  rintro e wz ⟨rfl,hbz⟩
  have hxz:Nxt _ wz:=⟨hbz⟩
  go_wp2_with fail
  go_ret
  exact ⟨rfl,(zaa:Nxt w wz).out⟩
 subst h2
 go_wp2_with fail
 refine zf (HFM.out _ zaa) ?_
 rintro e w4 ⟨rfl,hx4⟩
 have hw4:Nxt w w4:=zaa
 have hg4:Glo w4:=Glo.nxt (a:=w)
 cases F1
 ·skip
  go_wp2_with fail
  refine (HA.out _).mono ?_
  rintro e wz ⟨rfl,hbz⟩
  have hxz:Nxt _ wz:=⟨hbz⟩
  go_wp2_with fail
  go_ret
  exact ⟨rfl,(zaa:Nxt w wz).out⟩
 go_wp2_with fail
 refine zf (HFO.out _ zaa) ?_
 rintro e w5 ⟨rfl,hx5⟩
 have hw5:Nxt w w5:=zaa
 have hg5:Glo w5:=Glo.nxt (a:=w)
 cases F2
 ·skip
  go_wp2_with fail
  refine (HA.out _).mono ?_
  rintro e wz ⟨rfl,hbz⟩
  have hxz:Nxt _ wz:=⟨hbz⟩
  go_wp2_with fail
  go_ret
  exact ⟨rfl,(zaa:Nxt w wz).out⟩
 have hok:MOk rm (rm.headD []).length:=zfz HE.out.1
 obtain ⟨m,hmm⟩:∃ m,(rm.headD []).length=m:=⟨_,rfl⟩
 rw [hmm] at hok
 have HOK:=zc hok; have HMM:=zc hmm
 have hpn:decide ((0:Int) < (n:Int))=true:=by have:=hok.pos; have:=LN.out; simp; omega
 have hpn':(0:Int) < (n:Int):=by have:=hok.pos; have:=LN.out; omega
 obtain ⟨ad,B0,k0,d0,rfl,k3,hk0,_⟩:=(MAt.nxt HM.out (zaa:Nxt w w5)) 0 (rm.headD []) (zeW hok.pos)
 rw [zrf] at k3
 rw [hmm] at hk0
 subst hk0
 have c5k:CellAt w5 ad (.slice B0 m d0):=⟨k3⟩
 clear hok hmm
 by_cases hkm:k=m
 rotate_left
 ·have y1 : ((k : Int) != (m : Int)) = true := by simp; omega
  go_wp2_with fail
  refine (HA.out _).mono ?_
  rintro e wz ⟨rfl,hbz⟩
  have hxz:Nxt _ wz:=⟨hbz⟩
  go_wp2_with fail
  go_ret
  exact ⟨rfl,(zaa:Nxt w wz).out⟩
 subst hkm
 go_wp2_with fail
 refine zf (HFX.out _ zaa) ?_
 rintro e w6 ⟨rfl,hx6⟩
 have hw6:Nxt w w6:=zaa
 have hg6:Glo w6:=Glo.nxt (a:=w)
 cases F3
 ·skip
  go_wp2_with fail
  refine (HA.out _).mono ?_
  rintro e wz ⟨rfl,hbz⟩
  have hxz:Nxt _ wz:=⟨hbz⟩
  go_wp2_with fail
  go_ret
  exact ⟨rfl,(zaa:Nxt w wz).out⟩
 have HC:=zc (show EqC rm ro xs from ⟨HE.out.1,HE.out.2.1,HE.out.2.2.1,HE.out.2.2.2.1,LK.out.trans HMM.out.symm,HE.out.2.2.2.2⟩)
 have HS:=zc (show 0 < n/\n <= 4/\0 < p/\p <= 4/\0 < k/\k <= 4 by have:=HC.out.sizes; rw [LN.out,LP.out,LK.out] at this; omega)
 obtain ⟨i0,hi0,hz0,hz1,hz2⟩:=info_parts zlg
 have HI0:=zc hi0; have HZ0:=zc hz0; have HZ1:=zc hz1; have HZ2:=zc hz2
 obtain ⟨j0,hj0,hy0,hy1,hy2⟩:=info_parts zfa
 have HJ0:=zc hj0; have HY0:=zc hy0; have HY1:=zc hy1; have HY2:=zc hy2
 have k6:CellAt w6 ad (.slice B0 k d0):=CellAt.nxt (h:=hx6) (k:=c5k)
 have HW6:=zc hw6; have K6:=zc k6
 clear hi0 hz0 hz1 hz2 hj0 hy0 hy1 hy2 k3 c5k hx1 hx2 hx3 hx4 hx5 hx6 hg1 hg2 hg3 hg4 hg5 hw6 k6 HFM HFO HFX HCM HCO
 go_wp2_with fail
 go_loopw [7,8,62] (fun s7 s8 s62 wr=>∃ (i:Nat) (gs:List Nat),s62 = .int .i64 (i:Int)/\i <= k/\ColI w6 wr s7 gs (xs.take i)) (fun _ _ s62 _=>k - (intOf s62).toNat)
 case atStart=>exact ⟨0,[],rfl,Nat.zero_le _,by rw [List.take_zero]; exact ColI.nil⟩
 case round=>
  obtain ⟨i,gs,rfl,hi,hQ⟩:=hrel
  have HQ:=zc hQ
  have hxr:Nxt w6 wr:=hQ.nxt
  clear hQ
  by_cases hin:i < k
  ·have hlt : decide ((i : Int) < (k : Int)) = true := by simp; omega
   have hlt':(i:Int) < (k:Int):=by omega
   have hadd:IntKind.i64.wrap ((i:Int)+1)=((i+1:Nat):Int):=by have:=HS.out; rw [zx]; omega
   obtain ⟨x,hx⟩:∃ x,xs[i]?=some x:=⟨xs[i]'(by rw [LK.out]; exact hin),zg _⟩
   obtain ⟨adx,rfl,kx⟩:=(SAt.nxt HX.out (⟨HW6.out.out.trans (hxr.out.mono HW6.out.out.size)⟩:Nxt w wr)) i x hx
   have ck:CellAt wr (adx.add i) (str x):=⟨kx⟩
   have htl:(xs.take i).length=i:=by rw [List.length_take,LK.out]; omega
   have hown:=zrE HQ.out.own (zaa:Nxt wr ((wr.alloc (.cells #[str x] 22)).alloc (.cells #[.slice (some ⟨wr.heap.size,0,none⟩) 1 1] 59)))
   rw [htl] at hown
   have HOWN:=zc hown
   have HXR:=zc hxr; have HIN:=zc hin; have HX1:=zc hx; have HTL:=zc htl
   clear hx kx htl hown hxr hin
   go_wp2_with (at_builtin; refine wpList_append_own _ rfl (.tmp 65) (.tmp 71) 49 rfl w6.heap.size 59 i0 _ 1 24 Tryz.underlying49 HI0.out HZ0.out HZ1.out HZ2.out rfl (by decide) _ _ _ rfl HOWN.out ⟨wr.heap.size+1,0,none⟩ 1 1 [.slice (some ⟨wr.heap.size,0,none⟩) 1 1] rfl rfl zlt (fun u hu=>by rw [List.mem_singleton.1 hu]; rfl) (by have:=HS.out; have:=HIN.out; unfold maxLen; omega) (by have:=HS.out; have:=HIN.out; omega) (by have:=HXR.out.out.size; rw [World.size_alloc,World.size_alloc]; omega) ?_; intro v7 w7 hown7 hgrow7 _)
   have HN7:=zc (HQ.out.step (y:=x) (g:=wr.heap.size) (zaa:Nxt wr ((wr.alloc (.cells #[str x] 22)).alloc (.cells #[.slice (some ⟨wr.heap.size,0,none⟩) 1 1] 59))) za (by rw [HTL.out]; exact hown7) hgrow7)
   clear hown7 hgrow7
   go_wp2_with fail
   go_roundw
   case rel=>exact ⟨i+1,_,rfl,HIN.out,by
    have:=HN7.out
    rw [List.take_add_one,HX1.out]; exact this⟩
   case measure=>have:=HIN.out; simp [intOf]; omega
  ·have hlt : decide ((i : Int) < (k : Int)) = false := by simp; omega
   have hlt':¬ (i:Int) < (k:Int):=by omega
   obtain rfl:i=k:=by omega
   obtain ⟨D,dc,rfl,hcol⟩:=HQ.out.mat
   have htk:xs.take i=xs:=List.take_of_length_le (by rw [LK.out]; omega)
   rw [htk] at hcol
   rw [htk,LK.out]
   have hwr:Nxt w wr:=⟨HW6.out.out.trans (hxr.out.mono HW6.out.out.size)⟩
   have hgr:Glo wr:=Glo.nxt (a:=w)
   have cwr:CellAt wr ad (.slice B0 i d0):=CellAt.nxt (h:=hxr) (k:=K6.out)
   have HCOL:=zc hcol
   clear HQ hcol hxr htk hi
   have HWR:=zc hwr
   have hsm:∀ s,s <= 3 -> matE rm=0 -> elW (whB s) n <= 2 ^ 18:=fun s hs _=>by
    have h1:=HS.out
    have h2:elW (whB s) n <= elW (whB 3) 4:=by
     unfold elW whB
     have a:2 ^ n <= 2 ^ 4:=Nat.pow_le_pow_right (by omega) (by omega)
     have b:=Nat.mul_le_mul a (show s+(65 * (s+1)+1)+2 <= 3+(65 * (3+1)+1)+2 by omega)
     omega
    exact zo h2 (by decide)
   have hl40:∀ r ∈ rm,∀ x ∈ r,x.length < 2 ^ 40:=fun r hr x hx=>by
    have:=((zrn HC.out.fm).2 r hr).2 x hx
    have:=this.1; omega
   have hlo40:∀ r ∈ ro,∀ x ∈ r,x.length < 2 ^ 40:=fun r hr x hx=>by
    have:=((zrn HC.out.fo).2 r hr).2 x hx
    have:=this.1; omega
   have hlc40:∀ r ∈ colT xs,∀ x ∈ r,x.length < 2 ^ 40:=fun r hr x hx=>by
    obtain ⟨y,hy,rfl⟩:=List.mem_map.1 hr
    have:=(zrC HC.out.fx).2 y hy
    rw [List.mem_singleton.1 hx]; have:=this.1; omega
   have hcl:(colT xs).length=i:=by rw [<- LK.out]; simp [colT]
   have HSM:=zc hsm; have HL40:=zc hl40; have HLO40:=zc hlo40; have HLC40:=zc hlc40; have HCL:=zc hcl
   clear hsm hl40 hlo40 hlc40 hcl hwr
   go_wp2_with fail
   refine zf (zkS (MAt.nxt HM.out HWR.out) LN.out (by have:=HS.out; omega) HL40.out HCOL.out HCL.out (by have:=HS.out; omega) HLC40.out) ?_
   rintro e w7 hz
   rw [HC.out.mulE1,zrx HC.out.colok] at hz
   obtain ⟨Ap,rfl,hp7,hx7⟩:=MRet.ok hz (fun a b ha hb=>HC.out.fF a b (by rw [LN.out]; exact ha) hb)
   have ep:(List.range n).map (trow (mulF rm (colT xs)) 1)=colT (prodT rm xs):=by rw [<- LN.out]; exact zrQ
   rw [ep] at hp7
   have hw7:Nxt w w7:=⟨HWR.out.out.trans (hx7.out.mono HWR.out.out.size)⟩
   have hcol7:=MAt.nxt HCOL.out hx7
   have hg7:Glo w7:=Glo.nxt (a:=w)
   clear hz ep HCOL
   go_wp2_with fail
   refine zf (Rank_c (s:=3) (MAt.nxt HM.out hw7) LN.out (by have:=HS.out; omega) HL40.out (by decide) HC.out.msz (fun h=>zo (HSM.out 3 (zv _) h) (by decide))) ?_
   rintro e w8 ⟨rfl,hx8⟩
   rw [if_pos HC.out.m,HC.out.m]
   have hw8:Nxt w w8:=⟨hw7.out.trans (hx8.out.mono hw7.out.size)⟩
   have hp8:=MAt.nxt hp7 hx8
   have hcol8:=MAt.nxt hcol7 hx8
   have hg8:Glo w8:=Glo.nxt (a:=w)
   have c8:CellAt w8 ad (.slice B0 i d0):=CellAt.nxt (h:=hx8) (k:=CellAt.nxt (h:=hx7) (k:=cwr))
   obtain ⟨rk,hrk⟩:∃ rk,rankZ rm=rk:=⟨_,rfl⟩
   rw [hrk]
   have HRK:=zc hrk; have HW8:=zc hw8; have HP8:=zc hp8; have HCOL8:=zc hcol8; have C8:=zc c8
   have hpl:(prodT rm xs).length=n:=by rw [zrb,LN.out]
   have HPL:=zc hpl
   clear hrk hw8 hp8 hcol8 c8 hp7 hcol7 hw7 hx7 hx8 hg7 cwr hgr hpl
   go_wp2_with fail
   go_loopw [13,14,98] (fun s13 s14 s98 wr=>∃ j:Nat,s98 = .int .i64 (j:Int)/\j <= n/\TxI w8 wr s13 ((prodT rm xs).take j)) (fun _ _ s98 _=>n - (intOf s98).toNat)
   case atStart=>exact ⟨0,rfl,Nat.zero_le _,by rw [List.take_zero]; exact TxI.nil⟩
   case round=>
    obtain ⟨j,rfl,hj,hT⟩:=hrel
    have HT:=zc hT
    have hxr:Nxt w8 wr:=hT.nxt
    have HWRR:=zc (⟨HW8.out.out.trans (hxr.out.mono HW8.out.out.size)⟩:Nxt w wr)
    have hgr:Glo wr:=Glo.nxt (a:=w8)
    clear hT
    by_cases hjn:j < n
    ·have hlt : decide ((j : Int) < (n : Int)) = true := by simp; omega
     have hlt':(j:Int) < (n:Int):=by omega
     have hadd:IntKind.i64.wrap ((j:Int)+1)=((j+1:Nat):Int):=by have:=HS.out; rw [zx]; omega
     obtain ⟨r,hr⟩:∃ r,rm[j]?=some r:=⟨rm[j]'(by rw [LN.out]; exact hjn),zg _⟩
     have hrk:r.length=i:=by rw [<- LK.out]; exact HC.out.mok.cols r (zk hr)
     have hcan:(r.map readQ).map zad=r:=by
      rw [List.map_map]
      exact (List.map_congr_left (fun x hx=>zf8 (HC.out.mok.ok r (zk hr) x hx))).trans (List.map_id r)
     have hcanx:(xs.map readQ).map zad=xs:=by
      rw [List.map_map]
      exact (List.map_congr_left (fun x hx=>zf8 (HC.out.rx x hx))).trans (List.map_id xs)
     obtain ⟨T,hT⟩:∃ T,zad (dotL (r.map readQ) (xs.map readQ) i)=T:=⟨_,rfl⟩
     have hrow:(prodT rm xs)[j]?=some T:=by
      rw [zsi (by rw [LN.out]; exact hjn),HC.out.row j r hr,LK.out,hT]
     obtain ⟨adp,Bp,kp,dp,hA1,cp,hkp,hsp⟩:=(MAt.nxt HP8.out hxr) j [T] (by unfold colT; rw [List.getElem?_map,hrow]; rfl)
     obtain rfl:1=kp:=hkp
     obtain ⟨adq,rfl,cq⟩:=hsp 0 T rfl
     rw [zrf] at cq
     obtain ⟨ad2,Br,kr,dr,hA2,cr,hkr,hsr⟩:=(MAt.nxt HM.out HWRR.out) j r hr
     obtain rfl:ad=ad2:=zl hA2
     rw [hrk] at hkr
     subst hkr
     subst hA1
     have k1:CellAt wr (adp.add j) (.slice (some adq) 1 dp):=⟨cp⟩
     have k2:CellAt wr adq (str T):=⟨cq⟩
     have k3:CellAt wr (ad.add j) (.slice Br i dr):=⟨cr⟩
     have HPR:Hid (∀ w',Nxt wr w' -> Calls _ _ _ w' _):=zc (fun w' h=>zst (c:=dr) (e:=e) (P:=r.map readQ) (Q:=xs.map readQ) (a:=1) (b:=1) (A:=Br) (B:=C) (n:=i) (by rw [hcan]; exact SAt.nxt hsr h) (by rw [hcanx]; exact SAt.nxt HX.out ⟨HWRR.out.out.trans (h.out.mono HWRR.out.out.size)⟩) (by rw [List.length_map,hrk]) (by rw [List.length_map,LK.out]) (by have:=HS.out; omega)
      (fun q hq => by
       obtain ⟨x,hx,rfl⟩:=List.mem_map.1 hq
       exact sz_bn (HC.out.bm r (zk hr) x hx) (by decide +kernel) (by decide +kernel))
      (fun q hq => by
       obtain ⟨x,hx,rfl⟩:=List.mem_map.1 hq
       exact sz_bn (HC.out.bx x hx) (by decide +kernel) (by decide +kernel)) (by have:=HS.out; omega) (by decide) (by decide) (by decide))
     rw [hT] at HPR
     have htl:((prodT rm xs).take j).length=j:=by rw [List.length_take,HPL.out]; omega
     have hown:=zrE HT.out.own (zaa:Nxt wr wr)
     have HXR:=zc hxr; have HJN:=zc hjn; have HROW:=zc hrow; have HTL:=zc htl
     have y1:((1:Int) != 1)=false:=rfl
     clear hr hrk hcan hcanx hT hrow hsr cq cp cr hjn htl hown hxr
     go_wp2_with fail
     (refine Code.nameW ?_; intro W hW; go_region_held3 (fun w'=>ButO W [] w') (exact zab) ((go_at_call 53; refine zf (HPR.out _ zaa) ?_; rintro e w9 ⟨rfl,_⟩)))
     go_wp2_with (at_builtin; refine wpList_append_own _ rfl (.tmp 122) (.tmp 129) 59 rfl w8.heap.size 22 j0 (str []) 1 16 Tryz.underlying59 HJ0.out HY0.out HY1.out HY2.out rfl (by decide) _ _ _ rfl (zrE HT.out.own zaa) _ 1 1 [str T] rfl rfl zlt (fun u hu=>by rw [List.mem_singleton.1 hu]; rfl) (by have:=HS.out; have:=HJN.out; rw [HTL.out]; unfold maxLen; omega) (by have:=HS.out; have:=HJN.out; rw [HTL.out]; omega) (by have:=HXR.out.out.size; have:=(zaa:Nxt wr w9).out.size; rw [World.size_alloc]; omega) ?_; intro v10 w10 hown10 hgrow10 _)
     have HN10:=zc (TxI.step (h:=HT.out) (hg:=hgrow10) (hW:=zaa) (ho:=hown10))
     clear hown10 hgrow10
     go_wp2_with fail
     go_roundw
     case rel=>exact ⟨j+1,rfl,HJN.out,by
      have:=HN10.out
      rw [List.take_add_one,HROW.out]; exact this⟩
     case measure=>have:=HJN.out; simp [intOf]; omega
    ·have hlt : decide ((j : Int) < (n : Int)) = false := by simp; omega
     have hlt':¬ (j:Int) < (n:Int):=by omega
     obtain rfl:j=n:=by omega
     have htk:(prodT rm xs).take j=prodT rm xs:=List.take_of_length_le (by rw [HPL.out]; omega)
     have hT2:=HT.out
     rw [htk] at hT2
     obtain ⟨adb,cb,rfl,hsb⟩:=hT2.sat (fun e=>by have:=HPL.out; have:=HS.out; rw [e] at *; simp at *; omega)
     rw [HPL.out]
     have own0:(wr.alloc (.cells #[] 22)).ownsRow wr.heap.size 22 1 (.slice (some ⟨wr.heap.size,0,none⟩) 0 0) 0 []:=
      ⟨rfl,.inr ⟨wr.heap.size,0,#[],rfl,zv _,heap_alloc_new wr _,zv _,Nat.zero_le _,rfl,rfl⟩⟩
     have HCB:Hid (∀ (j:Nat) u,((prodT rm xs).map str)[j]?=some u -> (wr.alloc (.cells #[] 22)).cell? (adb.add j)=some u):=zc (by
      intro j v hv
      simp only [List.getElem?_map,Option.map_eq_some_iff] at hv
      obtain ⟨x,hj,rfl⟩:=hv
      obtain ⟨ad',e,hc⟩:=hsb j x hj
      cases e
      exact zaB zaa hc)
     have HO0:=zc own0
     have c9:CellAt wr ad (.slice B0 i d0):=CellAt.nxt (h:=hxr) (k:=C8.out)
     have HXR:=zc hxr
     clear HT hT2 own0 hsb htk hj hxr
     go_wp2_with (at_builtin; refine wpList_append_own _ rfl (.tmp 134) (.tmp 135) 59 rfl wr.heap.size 22 j0 (str []) 1 16 Tryz.underlying59 HJ0.out HY0.out HY1.out HY2.out rfl (by decide) _ _ _ rfl HO0.out adb j cb ((prodT rm xs).map str) rfl (by rw [List.length_map,HPL.out,Nat.mul_one]) HCB.out (zhN _) (by have:=HS.out; unfold maxLen; omega) (by have:=HS.out; omega) (by rw [World.size_alloc]; omega) ?_; intro v11 w11 hown11 hgrow11 _)
     rw [Nat.zero_add,List.nil_append] at hown11
     have hx11:Nxt wr w11:=zrF HO0.out zaa (zv _) hgrow11
     obtain ⟨g11,cap11,cs11,rfl,hb11,hc11⟩:=RowT.of_own hown11 (fun e=>by have:=HPL.out; have:=HS.out; rw [e] at *; simp at *; omega)
     have hs11:=(RowT.sat (w:=w11) (l:=prodT rm xs) (A:=some ⟨g11,0,none⟩) (k:=(prodT rm xs).length) (c:=cap11) ⟨g11,cap11,cs11,rfl,hb11,hc11⟩).2
     rw [HPL.out]
     have HW11:=zc (⟨HWRR.out.out.trans (hx11.out.mono HWRR.out.out.size)⟩:Nxt w w11)
     have hg11:Glo w11:=Glo.nxt (a:=wr)
     have c11:CellAt w11 ad (.slice B0 i d0):=CellAt.nxt (h:=hx11) (k:=c9)
     have hp11:=MAt.nxt (MAt.nxt HP8.out HXR.out) hx11
     have hcol11:=MAt.nxt (MAt.nxt HCOL8.out HXR.out) hx11
     have HS11:=zc hs11; have HP11:=zc hp11; have HCOL11:=zc hcol11
     clear hown11 hgrow11 hb11 hc11 hs11 hp11 hcol11 HCB HO0 c9 hgr HP8 HCOL8
     go_wp2_with fail
     refine zf (Solve_c (s:=3) (MAt.nxt HM.out HW11.out) LN.out (by have:=HS.out; omega) HL40.out HS11.out HPL.out (by have:=HS.out; omega) HC.out.plen (by decide) HC.out.msz HC.out.psz (fun h=>HSM.out 3 (zv _) h)) ?_
     rintro e w12 hz
     rw [HC.out.solE1] at hz
     by_cases hrk:rk=i
     ·have hrk2 : rankZ rm = xs.length := by rw [HRK.out, LK.out]; exact hrk
      rw [HC.out.sol.1.2 hrk2,if_pos rfl] at hz
      obtain ⟨hf,htx⟩:=HC.out.solT hrk2
      rw [HMM.out] at hz
      rw [LK.out] at hf htx
      obtain ⟨v12,rfl,hv12,hx12⟩:∃ v,e = .returned (.tuple #[v,.int .i64 0])/\TAt w12 v xs/\Nxt w11 w12:=by
       rcases hz with ⟨h0,_⟩ | ⟨_,⟨a,b,ha,hb,hn⟩,_⟩ | ⟨_,_,⟨v,h1,h2⟩,hx⟩
       ·exact absurd rfl h0
       ·exact absurd (hf a b ha hb) hn
       ·rw [htx] at h2; exact ⟨v,h1,h2,hx⟩
      obtain ⟨g12,rfl,_⟩:=id hv12
      have hs12:=(TAt.sat (h:=g12) hv12).2
      rw [LK.out]
      have HW12:=zc (⟨HW11.out.out.trans (hx12.out.mono HW11.out.out.size)⟩:Nxt w w12)
      have c12:CellAt w12 ad (.slice B0 i d0):=CellAt.nxt (h:=hx12) (k:=c11)
      have HSR:=zc (zfj (some ⟨g12,0,none⟩) C i e i i xs xs w12 hs12 (SAt.nxt HX.out HW12.out) LK.out LK.out (by have:=HS.out; omega) (by have:=HS.out; omega))
      rw [decide_eq_true (rfl:xs=xs)] at HSR
      obtain ⟨adO,BO,mo,dO,rfl,cO,hkO,_⟩:=HO.out 0 (ro.headD []) (zeW HC.out.ook.pos)
      rw [zrf] at cO
      have HCO:=zc (⟨cO⟩:CellAt w adO (.slice BO mo dO)); have HKO:=zc hkO
      have hlt2:decide ((rk:Int) < (i:Int))=false:=by simp; omega
      have hlt2':¬ (rk:Int) < (i:Int):=by omega
      have hpn2:decide ((0:Int) < (j:Int))=true:=by have:=HS.out; simp; omega
      have hpp:decide ((0:Int) < (p:Int))=true:=by have:=HS.out; simp; omega
      have hpp':(0:Int) < (p:Int):=by have:=HS.out; omega
      have hp12:=MAt.nxt HP11.out hx12
      have hcol12:=MAt.nxt HCOL11.out hx12
      have HP12:=zc hp12; have HCOL12:=zc hcol12; have HG11:=zc hg11; have HX12:=zc hx12
      have hrk3:=HRK.out
      clear hz hf htx hv12 hs12 cO hkO hp12 hcol12 HSM HP11 HCOL11 c11 hg11 hrk hrk2 hrk3 hx12
      go_wp2_with fail
      refine zf HSR.out ?_
      rintro e w13 ⟨rfl,hd13⟩
      have hx13:Nxt w12 w13:=⟨hd13.below _⟩
      have hw13:Nxt w w13:=⟨HW12.out.out.trans (hx13.out.mono HW12.out.out.size)⟩
      have hg13:Glo w13:=Glo.nxt (a:=w)
      have HX13:=zc hx13; have HW13:=zc hw13
      clear hd13 hx13 hw13 c12
      go_wp2_with fail
      refine zf (zkS (MAt.nxt HO.out HW13.out) LP.out (by have:=HS.out; omega) HLO40.out (MAt.nxt HM.out HW13.out) LN.out (by have:=HS.out; omega) HL40.out) ?_
      rintro e w14 hz
      rw [HC.out.mulE2,HKO.out,LN.out,HMM.out] at hz
      by_cases hmo:mo=j
      ·rw [if_neg (fun h => h hmo)] at hz
       obtain ⟨A14,rfl,hl14,hx14⟩:=MRet.ok hz (fun a b ha hb=>HC.out.fG a b (by rw [LP.out]; exact ha) (by rw [LK.out]; exact hb))
       have e14:(List.range p).map (trow (mulF ro rm) i)=texM (mulF ro rm) ro.length xs.length:=by rw [LP.out,LK.out]; rfl
       rw [e14] at hl14
       have hw14:Nxt w w14:=⟨HW13.out.out.trans (hx14.out.mono HW13.out.out.size)⟩
       have hg14:Glo w14:=Glo.nxt (a:=w)
       have cO14:CellAt w14 adO (.slice BO mo dO):=CellAt.nxt (h:=hw14) (k:=HCO.out)
       have y3:((mo:Int) != (j:Int))=false:=by simp; omega
       have hcol14:=MAt.nxt (MAt.nxt HCOL12.out HX13.out) hx14
       have hp14:=MAt.nxt (MAt.nxt HP12.out HX13.out) hx14
       have HL14:=zc hl14; have HCOL14:=zc hcol14; have HP14:=zc hp14; have HW14:=zc hw14
       have hmo2:(ro.headD []).length=rm.length:=by rw [HKO.out,LN.out]; exact hmo
       have HMO:=zc hmo2
       clear hz e14 hl14 hcol14 hp14 hw14 HCOL12 HP12 hmo hmo2
       go_wp2_with fail
       refine zf (zkS HL14.out (by rw [zrd]; exact LP.out) (by have:=HS.out; omega) HC.out.glen HCOL14.out HCL.out (by have:=HS.out; omega) HLC40.out) ?_
       rintro e w15 hz
       rw [HC.out.mulE3,zrx HC.out.colok] at hz
       obtain ⟨A15,rfl,hl15,hx15⟩:=MRet.ok hz (fun a b ha hb=>HC.out.fH1 a b (by rw [LP.out]; exact ha) hb)
       have hw15:Nxt w w15:=⟨HW14.out.out.trans (hx15.out.mono HW14.out.out.size)⟩
       have hg15:Glo w15:=Glo.nxt (a:=w)
       have HL15:=zc hl15; have HW15:=zc hw15; have HX15:=zc hx15
       clear hz hl15 hw15 hx15 cO14 HL14 hx14 hg14
       go_wp2_with fail
       refine zf (zkS (MAt.nxt HO.out HW15.out) LP.out (by have:=HS.out; omega) HLO40.out (MAt.nxt HP14.out HX15.out) (by show (colT (prodT rm xs)).length=j; rw [<- HPL.out]; simp [colT]) (by have:=HS.out; omega) (fun r hr x hx=>by
        obtain ⟨y,hy,rfl⟩:=List.mem_map.1 hr
        rw [List.mem_singleton.1 hx]; exact HC.out.plen y hy)) ?_
       rintro e w16 hz
       rw [HC.out.mulE4 HMO.out,zrx HC.out.pok] at hz
       obtain ⟨A16,rfl,hl16,hx16⟩:=MRet.ok hz (fun a b ha hb=>HC.out.fH2 a b (by rw [LP.out]; exact ha) hb)
       have hs1:MAt w16 A15 (texM (mulF ro (colT (prodT rm xs))) ro.length 1):=by
        have h15:=MAt.nxt HL15.out hx16
        rw [show List.range p=List.range ro.length by rw [LP.out]] at h15
        rw [<- HC.out.assoc HMO.out]; exact h15
       have hs2:MAt w16 A16 (texM (mulF ro (colT (prodT rm xs))) ro.length 1):=by rw [LP.out]; exact hl16
       have hshort:∀ r ∈ texM (mulF ro (colT (prodT rm xs))) ro.length 1,r.length < 2 ^ 40:=fun r hr=>by
        obtain ⟨a,_,rfl⟩:=List.mem_map.1 hr
        rw [zsf]; decide
       have HSMx:=zc (zgs A15 A16 p p p p _ _ w16 hs1 hs2 (by rw [zrd]; exact LP.out) (by rw [zrd]; exact LP.out) (by have:=HS.out; omega) (by have:=HS.out; omega) hshort hshort)
       rw [decide_eq_true (rfl:texM (mulF ro (colT (prodT rm xs))) ro.length 1=_)] at HSMx
       have HW16:=zc (⟨HW15.out.out.trans (hx16.out.mono HW15.out.out.size)⟩:Nxt w w16)
       clear hz hl16 hs1 hs2 hshort hx16 hg15
       go_wp2_with fail
       refine zf HSMx.out ?_
       rintro e w17 ⟨rfl,hd17⟩
       have HX17:=zc (⟨hd17.below _⟩:Nxt w16 w17)
       clear hd17
       go_wp2_with fail
       go_ret
       exact ⟨rfl,HW16.out.out.trans (HX17.out.out.mono HW16.out.out.size)⟩
      ·rw [if_pos (fun h => hmo h)] at hz
       obtain ⟨rfl,hx14⟩:e = .returned (.tuple #[.slice none 0 0,.int .i64 2])/\Nxt w13 w14:=by
        rcases hz with ⟨_,h1,hx⟩ | ⟨h0,_⟩
        ·exact ⟨h1,hx⟩
        ·cases h0
       have cO14:CellAt w14 adO (.slice BO mo dO):=CellAt.nxt (h:=hx14) (k:=CellAt.nxt (h:=HW13.out) (k:=HCO.out))
       have y3:((mo:Int) != (j:Int))=true:=by simp; omega
       clear hz
       go_wp2_with fail
       go_ret
       exact ⟨rfl,HW13.out.out.trans (hx14.out.mono HW13.out.out.size)⟩
     ·have hrk2:solOk rm (prodT rm xs)=false:=by
       rw [Bool.eq_false_iff]
       intro h
       exact hrk (by have:=HC.out.sol.1.1 h; rw [HRK.out,LK.out] at this; exact this)
      rw [hrk2,if_neg (by decide)] at hz
      obtain ⟨rfl,hx12⟩:e = .returned (.tuple #[.slice none 0 0,.int .i64 14])/\Nxt w11 w12:=by
       rcases hz with ⟨_,h1,hx⟩ | ⟨h0,_⟩ | ⟨h0,_⟩
       ·exact ⟨h1,hx⟩
       ·cases h0
       ·cases h0
      have hlt2:decide ((rk:Int) < (i:Int))=true:=by
       have:=HC.out.rank_le
       rw [HRK.out,LK.out] at this
       simp; omega
      have hlt2':(rk:Int) < (i:Int):=by simpa using hlt2
      have hpn2:decide ((0:Int) < (j:Int))=true:=by have:=HS.out; simp; omega
      clear hz
      go_wp2_with fail
      go_ret
      exact ⟨rfl,(⟨HW11.out.out.trans (hx12.out.mono HW11.out.out.size)⟩:Nxt w w12).out⟩
end
end Go.Proofs.YtombhkpniddceaaGreatDoor
