import Derived.Test.YtombhkpniddceaaGreatDoorM44
import Derived.Test.YtombhkpniddceaaGreatDoorM31
set_option maxHeartbeats 6400000
set_option maxRecDepth 100000
set_option synthInstance.maxSize 20000
set_option linter.all false
namespace Go.Proofs.YtombhkpniddceaaGreatDoor
open Go.RowKit
def zas (l:List UInt8):Nat:=(l.takeWhile (· != 47)).length
theorem zdD:∀ {l:List UInt8} {i:Nat},(∀ j x,j < i -> l[j]?=some x -> x ≠ 47) -> l[i]?=some 47 -> zas l=i
 | [],i,_,h=>by simp at h
 | c :: t,0,_,h=>by
  obtain rfl:c=47:=by simpa using h
  simp [zas]
 | c :: t,i+1,h1,h=>by
  have hc:c ≠ 47:=h1 0 c (by omega) rfl
  have:=zdD (l:=t) (i:=i) (fun j x hj hx=>h1 (j+1) x (by omega) (by simpa using hx)) (by simpa using h)
  unfold zas at this ⊢
  rw [List.takeWhile_cons_of_pos (by simpa using hc),List.length_cons,this]
theorem zev:∀ {l:List UInt8},(∀ x ∈ l,x ≠ 47) -> zas l=l.length
 | [],_=>rfl
 | c :: t,h=>by
  have:=zev (l:=t) (fun x hx=>h x (List.mem_cons_of_mem _ hx))
  unfold zas at this ⊢
  rw [List.takeWhile_cons_of_pos (by simpa using h c List.mem_cons_self),List.length_cons,this,List.length_cons]
theorem zgZ {l:List UInt8} {k:Nat} {x:UInt8} (h:l[k]?=some x):l.take (k+1)=l.take k ++ [x]:=by rw [List.take_add_one,h]; rfl
theorem zff {s:ByteArray} {w:World} (hs:s.size < 2 ^ 63):Calls Tryz.prog 75 #[.string s] w (fun e w'=>e = .returned (.int .i64 (zas s.data.toList:Int))/\Drew w w'):=by
 have HS:=zc hs
 clear hs
 go_enter Tryz.func75,Tryz.ntmps75
 go_wp2_with fail
 go_loopg [3] s.size (fun gk s3 wr=>∃ i:Nat,gk=s.size - i/\i <= s.size/\s3 = .int .i64 (i:Int)/\(∀ j x,j < i -> s.data.toList[j]?=some x -> x ≠ 47)/\Drew w wr)
 case atStart=>exact ⟨0,rfl,Nat.zero_le _,rfl,fun j x h=>absurd h (by omega),Drew.refl _⟩
 case round=>
  obtain ⟨i,rfl,hi,rfl,hok,hd⟩:=hrel
  have HOK:=zc hok; have HD:=zc hd
  clear hok hd
  by_cases hin:i < s.size
  ·have hlt : decide ((i : Int) < (s.size : Int)) = true := by simp; omega
   have hlt':(i:Int) < (s.size:Int):=by omega
   have hadd:IntKind.i64.wrap ((i:Int)+1)=((i+1:Nat):Int):=by have:=HS.out; rw [zx]; omega
   obtain ⟨c,hc⟩:∃ c,s[i]=c:=⟨_,rfl⟩
   have hci:s.data.toList[i]?=some c:=by
    have h2:s.data[i]?=some s[i]:=by rw [Array.getElem?_eq_getElem hin]; rfl
    rw [hc] at h2; simpa using h2
   have HCI:=zc hci; have HIN:=zc hin
   clear hci
   by_cases h47:c=47
   ·have heq : ((c.toNat : Int) == 47) = true := by rw [h47]; rfl
    have H47:=zc h47
    clear h47
    go_wp2_with fail
    go_ret
    rw [zdD HOK.out (by rw [HCI.out,H47.out])]
    exact ⟨by first | rfl | simp,HD.out⟩
   ·have hne:((c.toNat:Int) == 47)=false:=by
     simp
     intro h
     exact h47 (UInt8.toNat_inj.1 (by rw [show (47:UInt8).toNat=47 from rfl]; omega))
    have H47:=zc h47
    clear h47
    go_wp2_with fail
    go_roundg (s.size - (i+1))
    case rel=>exact ⟨i+1,rfl,HIN.out,rfl,fun j x hj hx=>by
     rcases Nat.lt_or_ge j i with h | h
     ·exact HOK.out j x h hx
     ·obtain rfl : j = i := by omega
      rw [HCI.out] at hx
      obtain rfl:=zl hx
      exact H47.out,HD.out⟩
    case measure=>have:=HIN.out; omega
  ·have hlt : decide ((i : Int) < (s.size : Int)) = false := by simp; omega
   obtain rfl:i=s.size:=by omega
   go_wp2_with fail
   go_ret
   refine ⟨?_,HD.out⟩
   rw [zev]
   ·simp
   ·intro x hx
    obtain ⟨j,hj,rfl⟩:=List.getElem_of_mem hx
    exact HOK.out j _ (by simpa using hj) (zg hj)
theorem zds {s:ByteArray} {w:World} (hs:s.size <= 18) (hd:Digs s.data.toList):Calls Tryz.prog 204 #[.string s] w (fun e w'=>e = .returned (.int .i64 (zac s.data.toList:Int))/\Drew w w'):=by
 have HS:=zc hs; have HDG:=zc hd
 clear hs hd
 go_enter Tryz.func204,Tryz.ntmps204
 go_wp2_with fail
 go_loopg [3,4] s.size (fun gk s3 s4 wr=>∃ i:Nat,gk=s.size - i/\i <= s.size/\s3 = .int .i64 (zac (s.data.toList.take i):Int)/\s4 = .int .i64 (i:Int)/\Drew w wr)
 case atStart=>exact ⟨0,rfl,Nat.zero_le _,rfl,rfl,Drew.refl _⟩
 case round=>
  obtain ⟨i,rfl,hi,rfl,rfl,hd⟩:=hrel
  have HD:=zc hd
  clear hd
  by_cases hin:i < s.size
  ·have hlt : decide ((i : Int) < (s.size : Int)) = true := by simp; omega
   have hlt':(i:Int) < (s.size:Int):=by omega
   have hadd:IntKind.i64.wrap ((i:Int)+1)=((i+1:Nat):Int):=by have:=HS.out; rw [zx]; omega
   obtain ⟨c,hc⟩:∃ c,s[i]=c:=⟨_,rfl⟩
   have hci:s.data.toList[i]?=some c:=by
    have h2:s.data[i]?=some s[i]:=by rw [Array.getElem?_eq_getElem hin]; rfl
    rw [hc] at h2; simpa using h2
   have hx:=HDG.out c (zk hci)
   have hts:zac (s.data.toList.take (i+1))=10 * zac (s.data.toList.take i)+(c.toNat - 48):=by
    rw [zgZ hci,zcL]
   have hv:zac (s.data.toList.take i) < 10 ^ 17:=by
    have h1:=zbc (l:=s.data.toList.take i) (fun b hb=>HDG.out b (List.mem_of_mem_take hb))
    have h2:(s.data.toList.take i).length <= 17:=by have:=HS.out; rw [List.length_take]; omega
    exact Nat.lt_of_lt_of_le h1 (Nat.pow_le_pow_right (by omega) h2)
   generalize hvv:zac (s.data.toList.take i)=v at *
   obtain ⟨p,hp⟩:∃ p,10 * v=p:=⟨_,rfl⟩
   obtain ⟨q,hq⟩:∃ q,p+c.toNat=q:=⟨_,rfl⟩
   obtain ⟨r,hr⟩:∃ r,q - 48=r:=⟨_,rfl⟩
   have m1:IntKind.i64.wrap (10 * (v:Int))=(p:Int):=by rw [zx]; omega
   have m0:IntKind.i64.wrap (c.toNat:Int)=(c.toNat:Int):=by rw [zx]; omega
   have m2:IntKind.i64.wrap ((p:Int)+(c.toNat:Int))=(q:Int):=by rw [zx]; omega
   have m3:IntKind.i64.wrap ((q:Int) - 48)=(r:Int):=by rw [zx]; omega
   have HTS:Hid (zac (s.data.toList.take (i+1))=r):=zc (by rw [hts]; omega)
   have HIN:=zc hin
   clear hts hv hvv hci hx hp hq hr
   go_wp2_with fail
   go_roundg (s.size - (i+1))
   case rel=>exact ⟨i+1,rfl,HIN.out,by rw [HTS.out],rfl,HD.out⟩
   case measure=>have:=HIN.out; omega
  ·have hlt : decide ((i : Int) < (s.size : Int)) = false := by simp; omega
   obtain rfl:i=s.size:=by omega
   go_wp2_with fail
   go_ret
   have e:s.data.toList.take s.size=s.data.toList:=List.take_of_length_le (by simp)
   exact ⟨by first | (simp [e]; done) | (simp only [e]; rfl),HD.out⟩
def decK:Nat -> Nat -> List UInt8
 | 0,_=>[]
 | k+1,n=>decK k (n / 10) ++ [UInt8.ofNat (48+n % 10)]
theorem zhh:∀ (k n:Nat),(decK k n).length=k
 | 0,_=>rfl
 | k+1,n=>by rw [decK,List.length_append,zhh k]; rfl
theorem ziv:∀ (k n:Nat),decK (k+1) n=UInt8.ofNat (48+n / 10 ^ k % 10) :: decK k n
 | 0,n=>by simp [decK]
 | k+1,n=>by
  rw [decK,ziv k (n / 10),decK,Nat.div_div_eq_div_mul,Nat.pow_succ,zw (10 ^ k) 10]
  rfl
theorem zhi:∀ {k n:Nat},n < 10 ^ k -> (k=1 ∨ 10 ^ (k - 1) <= n) -> 1 <= k -> decK k n=Lib.decDigits n
 | 1,n,h,_,_=>by
  have:n < 10:=by simpa using h
  rw [Lib.decDigits_one this]
  simp [decK,Nat.mod_eq_of_lt this]
 | k+2,n,h,h2,_=>by
  have h3:10 ^ (k+1) <= n:=by rcases h2 with h2 | h2; omega; simpa using h2
  have h4:1 <= 10 ^ k:=Nat.one_le_pow _ _ (by decide)
  have h5:¬ n < 10:=by rw [Nat.pow_succ] at h3; omega
  rw [decK,Lib.decDigits,dif_neg h5,zhi (k:=k+1) (n:=n / 10) (by rw [Nat.div_lt_iff_lt_mul (by decide),<- Nat.pow_succ]; exact h) (.inr (by rw [Nat.add_sub_cancel,Nat.le_div_iff_mul_le (by decide),<- Nat.pow_succ]; exact h3)) (by omega)]
theorem cat1 (c:UInt8) (l:List UInt8):Value.string ((⟨#[c]⟩:ByteArray) ++ ⟨l.toArray⟩)=str (c :: l):=by
 have e:((⟨#[c]⟩:ByteArray) ++ ⟨l.toArray⟩)=⟨(c :: l).toArray⟩:=by
  apply ByteArray.ext
  rw [ByteArray.data_append]
  simp
 rw [e]
theorem zkJ (d:Nat):48+UInt8.ofNat d=UInt8.ofNat (48+d):=by
 rw [UInt8.ofNat_add]; rfl
theorem decimal_c {n least K:Nat} {w:World} (hn:n < 2 ^ 62) (hl:least <= 2 ^ 20) (h1:least <= K) (h2:n < 10 ^ K) (h3:K <= least ∨ 10 ^ (K - 1) <= n):
  Calls Tryz.prog 206 #[.int .i64 (n:Int),.int .i64 (least:Int)] w (fun e w'=>e = .returned (str (decK K n))/\Drew w w'):=by
 have HK20:K <= 2 ^ 20:=by
  rcases h3 with h | h
  ·omega
  ·rcases Nat.lt_or_ge (2 ^ 20) K with hk | hk
   ·exfalso
    have h5:10 ^ 62 <= 10 ^ (K - 1):=Nat.pow_le_pow_right (by decide) (by omega)
    have h6:2 ^ 62 <= 10 ^ 62:=by decide
    omega
   ·exact hk
 have HN:=zc hn; have HL:=zc hl; have H1:=zc h1; have H2:=zc h2; have H3:=zc h3
 clear hn hl h1 h2 h3
 go_enter Tryz.func206,Tryz.ntmps206
 go_wp2_with fail
 go_loopg [0,5] K (fun gk s0 s5 wr=>∃ i:Nat,gk=K - i/\i <= K/\s0 = .int .i64 ((n / 10 ^ i:Nat):Int)/\s5=str (decK i n)/\Drew w wr)
 case atStart=>exact ⟨0,rfl,Nat.zero_le _,by simp,rfl,Drew.refl _⟩
 case round=>
  obtain ⟨i,rfl,hi,rfl,rfl,hd⟩:=hrel
  have HD:=zc hd
  clear hd
  have hlen:(decK i n).length=i:=zhh i n
  obtain ⟨q,hq⟩:∃ q,n / 10 ^ i=q:=⟨_,rfl⟩
  rw [hq]
  have hqn:q <= n:=by rw [<- hq]; exact Nat.div_le_self _ _
  by_cases hin:i < K
  ·obtain ⟨d, hd⟩ : ∃ d, q % 10 = d := ⟨_, rfl⟩
   obtain ⟨q1,hq1⟩:∃ q1,q / 10=q1:=⟨_,rfl⟩
   have hd10:d < 10:=by omega
   have hgo:0 < q ∨ (¬ 0 < q/\i < least):=by
    rcases H3.out with h | h
    ·by_cases h0 : 0 < q
     ·exact .inl h0
     ·exact .inr ⟨h0,by omega⟩
    ·left
     rw [<- hq]
     refine Nat.div_pos (zo (Nat.pow_le_pow_right (by decide) (by omega)) h) (Nat.pow_pos (by decide))
   have r1:=zeQ (a:=q) (b:=10) hd (by omega)
   have t1:=zc8 (a:=q) (b:=10) hq1 (by have:=HN.out; omega)
   have e1:Int.tmod (q:Int) 10=(d:Int):=r1.1
   have e2:(q:Int) % 10=(d:Int):=r1.2.1
   have e3:=r1.2.2
   have e4:Int.tdiv (q:Int) 10=(q1:Int):=t1.1
   have e5:(q:Int) / 10=(q1:Int):=t1.2.1
   have e6:=t1.2.2
   have hcat:¬ (9223372036854775807 < min (d+1) 10 - d+i):=by have:=H3.out; have:=HN.out; have:=HL.out; have:=HK20; omega
   clear r1 t1
   have e7:IntKind.i64.wrap ((d:Int)+1)=((d+1:Nat):Int):=by rw [zx]; omega
   have b1:(0:Int) <= (d:Int):=by omega
   have b2:(d:Int) <= (d:Int)+1:=by omega
   have b3:(d:Int)+1 <= 10:=by omega
   have hdd:(⟨#[48,49,50,51,52,53,54,55,56,57]⟩:ByteArray).extract d (d+1)=⟨#[UInt8.ofNat (48+d)]⟩:=by
    have:∀ d:Fin 10,(⟨#[48,49,50,51,52,53,54,55,56,57]⟩:ByteArray).extract d.val (d.val+1)=⟨#[UInt8.ofNat (48+d.val)]⟩:=by decide +kernel
    exact this ⟨d,hd10⟩
   have HEAD:Hid (decK (i+1) n=UInt8.ofNat (48+d) :: decK i n):=zc (by rw [ziv,hq,hd])
   have HQ1:Hid (n / 10 ^ (i+1)=q1):=zc (by rw [Nat.pow_succ,<- Nat.div_div_eq_div_mul,hq,hq1])
   have HIN:=zc hin
   clear hq hd hq1 hqn
   rcases hgo with hgo | ⟨hgo,hgo2⟩
   all_goals go_wp2_with fail
   all_goals go_roundg (K - (i+1))
   all_goals first
    | exact ⟨i+1,rfl,HIN.out,by rw [HQ1.out],by rw [zkJ,cat1,HEAD.out],HD.out⟩
    | (have:=HIN.out; omega)
  ·obtain rfl : i = K := by omega
   have hq0:q=0:=by rw [<- hq]; exact Nat.div_eq_of_lt H2.out
   have hnl:¬ i < least:=by have:=H1.out; omega
   subst hq0
   clear hq hqn hin
   go_wp2_with fail
   go_ret
   exact ⟨rfl,HD.out⟩
theorem zd2:∀ (k:Nat) {n x:Nat},1 <= n -> x < 10 ^ k -> Lib.decDigits (n * 10 ^ k+x)=Lib.decDigits n ++ decK k x
 | 0,n,x,_,hx=>by
  have:x=0:=by simpa using hx
  subst this
  simp [decK]
 | k+1,n,x,hn,hx=>by
  have h1:1 <= 10 ^ k:=Nat.one_le_pow _ _ (by decide)
  have h2:n * 10 ^ (k+1)=n * 10 ^ k * 10:=by rw [Nat.pow_succ,Nat.mul_assoc]
  have h3:1 * 10 ^ k <= n * 10 ^ k:=Nat.mul_le_mul_right _ hn
  rw [Nat.pow_succ] at hx
  have h4:¬ n * 10 ^ (k+1)+x < 10:=by omega
  have h5:(n * 10 ^ (k+1)+x) / 10=n * 10 ^ k+x / 10:=by omega
  have h6:(n * 10 ^ (k+1)+x) % 10=x % 10:=by omega
  conv=>lhs; rw [Lib.decDigits,dif_neg h4,h5,h6,zd2 k hn (by omega)]
  rw [decK,List.append_assoc]
theorem zmk {n x:Nat} (hn:1 <= n) (hx:x < B9):Lib.decDigits (x+B9 * n)=Lib.decDigits n ++ decK 9 x:=by
 have:=zd2 9 hn (x:=x) (by unfold B9 at hx; omega)
 rw [<- this]; congr 1; unfold B9; omega
theorem cat2 (a b:List UInt8):Value.string ((⟨a.toArray⟩:ByteArray) ++ ⟨b.toArray⟩)=str (a ++ b):=by
 have e:((⟨a.toArray⟩:ByteArray) ++ ⟨b.toArray⟩)=⟨(a ++ b).toArray⟩:=by
  apply ByteArray.ext
  rw [ByteArray.data_append]
  simp
 rw [e]
theorem zem:∀ {k n:Nat},1 <= k -> n < 10 ^ k -> Lib.nDigits n <= k
 | 1,n,_,h=>by rw [Lib.nDigits_small (by simpa using h)]; exact zv _
 | k+2,n,_,h=>by
  by_cases h1:n < 10
  ·rw [Lib.nDigits_small h1]; omega
  ·rw [Lib.nDigits_big h1]
   have:=zem (k:=k+1) (n:=n / 10) (by omega) (by rw [Nat.div_lt_iff_lt_mul (by decide),<- Nat.pow_succ]; exact h)
   omega
theorem zgC (m:Nat):B9 ^ m=10 ^ (9 * m):=by
 rw [Nat.pow_mul]; rfl
theorem zgJ:itoaZ 0=[48]:=by
 unfold itoaZ
 rw [if_neg (by decide),show (0:Int).natAbs=0 from rfl,Lib.decDigits_one (by decide)]
 rfl
theorem zgE {n:Nat} (hn:1 <= n):Lib.nDigits n <= 1 ∨ 10 ^ (Lib.nDigits n - 1) <= n:=by
 have h2:∀ k u,Lib.nDigits u=k+2 -> 10 ^ (k+1) <= u:=by
  intro k
  induction k with
  | zero=>
   intro u hu
   by_cases h:u < 10
   ·rw [Lib.nDigits_small h] at hu; omega
   ·omega
  | succ k ih=>
   intro u hu
   by_cases h:u < 10
   ·rw [Lib.nDigits_small h] at hu; omega
   ·rw [Lib.nDigits_big h] at hu
    have:=ih (u / 10) (by omega)
    rw [Nat.pow_succ]; omega
 rcases Nat.lt_or_ge 1 (Lib.nDigits n) with h | h
 ·right
  have:=h2 (Lib.nDigits n - 2) n (by omega)
  rwa [show Lib.nDigits n - 2+1=Lib.nDigits n - 1 by omega] at this
 ·exact .inl h
theorem zjm {n:Nat} {w:World} (hn:1 <= n) (hb:n < B9):Calls Tryz.prog 206 #[.int .i64 (n:Int),.int .i64 1] w (fun e w'=>e = .returned (str (Lib.decDigits n))/\Drew w w'):=by
 have h1:=Lib.nDigits_pos n
 have h2:=Lib.lt_pow_nDigits n
 have h3:=zgE hn
 have:=decimal_c (n:=n) (least:=1) (K:=Lib.nDigits n) (w:=w) (by unfold B9 at hb; omega) (by omega) h1 h2 h3
 rw [zhi h2 (by rcases h3 with h | h; exact .inl (by omega); exact .inr h) h1] at this
 exact this
theorem ziq {n:Nat} {w:World} (hb:n < B9):Calls Tryz.prog 206 #[.int .i64 (n:Int),.int .i64 9] w (fun e w'=>e = .returned (str (decK 9 n))/\Drew w w'):=
 decimal_c (n:=n) (least:=9) (K:=9) (by unfold B9 at hb; omega) (by omega) (by omega) (by unfold B9 at hb; omega) (.inl (by omega))
theorem zd9 {v:Value} {z:Int} {w:World} [h1:ZIs w v z] (l1:dl z.natAbs <= 2 ^ 24):Calls Tryz.prog 181 #[v] w (PRet w (str (itoaZ z))):=by
 obtain ⟨⟨b,⟨A,k,c⟩⟩,rfl,HB,hd,hk⟩:=h1.form
 have hb:=HB.out
 simp only at hb
 have hkn:=hk.out
 simp only at hkn
 have hL:=hd.list
 by_cases hz0:z=0
 ·subst hz0
  obtain rfl:k=0:=by rw [hkn]; exact zfZ
  rw [zgJ]
  clear hL hkn hb hd HB hk l1 h1
  go_enter Tryz.func181,Tryz.ntmps181
  go_wp2_with fail
  go_ret
  exact ⟨rfl,zaa⟩
 ·obtain ⟨n, hn⟩ : ∃ n, k = n + 1 := ⟨k - 1, by have := zf0 (show z.natAbs ≠ 0 by omega); omega⟩
  obtain ⟨x,hx,hx0,hxb,_,_⟩:=top9 (b:=z.natAbs) (n:=n) (by omega)
  obtain ⟨ad,e,_,_⟩:=hL.at_.2.2.2.at_ n x hx
  subst e
  have HCV:Hid (∀ wq,Nxt w wq -> ∀ (i x:Nat),(digs z.natAbs)[i]?=some x -> wq.cell? (ad.add i)=some (.int .i64 (x:Int))):=zc fun wq hx i x hi=>by
   obtain ⟨ad2,e,hl2,hc2⟩:=hL.at_.2.2.2.at_ i x hi
   injection e with e
   subst e
   exact (hx.out.cell (by rw [zaw]; exact hl2)).trans hc2
  have HKN:Hid (k <= 2 ^ 24):=zc (by omega)
  have hkz:((k:Int) == 0)=false:=by simp; omega
  have w1:IntKind.i64.wrap ((k:Int) - 1)=(n:Int):=by have:=HKN.out; rw [zx]; omega
  have w2:IntKind.i64.wrap ((k:Int) - 2)=(n:Int) - 1:=by have:=HKN.out; rw [zx]; omega
  have l2:(n:Int) < (k:Int):=by omega
  have HX:=zc hx; have HX0:=zc hx0; have HXB:=zc hxb; have HN:=zc hn; have HBB:=zc hb; have HZ0:=zc hz0
  have hbx:Blk (w.alloc (.cells #[.bool b,.slice (some ad) k c] 112)) w.heap.size 112 #[.bool b,.slice (some ad) k c]:=Blk.new
  have HBX:=zc hbx
  have c1:=HCV.out (w.alloc (.cells #[.bool b,.slice (some ad) k c] 112)) zaa n x hx
  clear hbx hx hx0 hxb hn hb hkn hz0 l1
  go_enter Tryz.func181,Tryz.ntmps181
  go_wp2_with fail
  refine zf (zjm HX0.out HXB.out) ?_
  rintro e w5 ⟨rfl,hd5⟩
  have hx5:Nxt w w5:=⟨((Below.refl _ _).alloc (zv _) _).trans (hd5.below _)⟩
  have hb5:Blk w5 w.heap.size 112 #[.bool b,.slice (some ad) k c]:=Blk.nxt (h:=⟨hd5.below _⟩) (k:=HBX.out)
  clear hd5 c1
  have hdr:dval ((digs z.natAbs).drop n)=x:=by
   rw [zat,zbu HX.out,List.drop_of_length_le (by show dl z.natAbs <= n+1; have:=hk.out; have:=HN.out; omega)]
   simp [dval]
  have HDR:=zc hdr
  clear hdr
  go_wp2_with fail
  go_loopg [3,4] (0+n) (fun gk s3 s4 wr=>∃ j:Nat,gk=0+j/\j <= n/\s3=str (Lib.decDigits (dval ((digs z.natAbs).drop j)))/\s4 = .int .i64 ((j:Int) - 1)/\Nxt w wr/\Blk wr w.heap.size 112 #[.bool b,.slice (some ad) k c])
  case atStart=>exact ⟨n,rfl,zv _,by rw [HDR.out],rfl,hx5,hb5⟩
  case round=>
   obtain ⟨j1,rfl,hj1,rfl,rfl,hx,hb⟩:=hrel
   have HXX:=zc hx; have HBB2:=zc hb
   by_cases h0:0 < j1
   ·obtain ⟨j, rfl⟩ : ∃ j, j1 = j + 1 := ⟨j1 - 1, by omega⟩
    rw [show ((j+1:Nat):Int) - 1=(j:Int) by omega]
    have hge:decide ((0:Int) <= (j:Int))=true:=by simp
    have hsub:IntKind.i64.wrap ((j:Int) - 1)=(j:Int) - 1:=by have:=HKN.out; have:=HN.out; rw [zx]; omega
    have hjk:(j:Int) < (k:Int):=by have:=HN.out; omega
    have hlen:(digs z.natAbs).length=k:=hk.out.symm
    have hy:=zcP (us:=digs z.natAbs) (i:=j) (by rw [hlen]; have:=HN.out; omega)
    obtain ⟨y,hyy⟩:∃ y,dg (digs z.natAbs) j=y:=⟨_,rfl⟩
    rw [hyy] at hy
    have hyb:y < B9:=zbI _ y (zk hy)
    have c1:=HCV.out wr hx j y hy
    obtain ⟨M,hM⟩:∃ M,dval ((digs z.natAbs).drop (j+1))=M:=⟨_,rfl⟩
    have hstep:dval ((digs z.natAbs).drop j)=y+B9 * M:=by rw [zat,hyy,hM]
    have hM1:1 <= M:=by
     rw [<- hM,zaJ ((digs z.natAbs).drop (j+1)) (n - (j+1)) (by rw [List.length_drop,hlen]; have:=HN.out; omega),List.drop_drop,show j+1+(n - (j+1))=n by omega,HDR.out]
     have h1:0 < B9 ^ (n - (j+1)):=Nat.pow_pos zaC
     have h2:=Nat.mul_pos h1 HX0.out
     omega
    have hMl:(Lib.decDigits M).length <= 9 * 2 ^ 24:=by
     rw [Lib.decDigits_length]
     have h1:M < B9 ^ (k - (j+1)):=by
      rw [<- hM]
      have:=zc0 ((digs z.natAbs).drop (j+1)) (fun a ha=>zbI _ a (List.mem_of_mem_drop ha))
      rwa [List.length_drop,hlen] at this
     rw [zgC] at h1
     have h2:=zem (k:=9 * (k - (j+1))) (by
      rcases Nat.eq_zero_or_pos (k - (j+1)) with h | h
      ·rw [h] at h1; simp at h1; omega
      ·omega) h1
     have:=HKN.out
     omega
    have hl9:(decK 9 y).length=9:=zhh 9 y
    have hcat:¬ (9223372036854775807 < (Lib.decDigits M).length+9):=by omega
    have HCH:Hid (Lib.decDigits (dval ((digs z.natAbs).drop j))=Lib.decDigits M ++ decK 9 y):=zc (by rw [hstep]; exact zmk hM1 hyb)
    have HYB:=zc hyb; have HJ:=zc hj1
    rw [hM]
    clear hy hyy hyb hM hstep hM1 hMl hj1 hlen
    go_wp2_with fail
    refine zf (ziq HYB.out) ?_
    rintro e w6 ⟨rfl,hd6⟩
    have hx6:Nxt wr w6:=⟨hd6.below _⟩
    clear hd6
    go_wp2_with fail
    go_roundg (0+j)
    case rel=>exact ⟨j,rfl,by have:=HJ.out; omega,by rw [cat2,HCH.out],rfl,zaa,Blk.nxt (h:=hx6) (k:=HBB2.out)⟩
    case measure=>omega
   ·obtain rfl : j1 = 0 := by omega
    have hge:decide ((0:Int) <= ((0:Nat):Int) - 1)=false:=by decide
    have e0:dval ((digs z.natAbs).drop 0)=z.natAbs:=by rw [List.drop_zero,zai]
    rw [e0]
    have hMl:(Lib.decDigits z.natAbs).length <= 9 * 2 ^ 24:=by
     rw [Lib.decDigits_length]
     have h1:=zfA z.natAbs
     rw [zgC,<- hk.out] at h1
     have h2:=zem (k:=9 * k) (by have:=HN.out; omega) h1
     have:=HKN.out
     omega
    have hcat:¬ (9223372036854775807 < 1+(Lib.decDigits z.natAbs).length):=by omega
    cases b
    ·have hz : ¬ z < 0 := by have := HBB.out; simpa using this
     have HT:Hid (itoaZ z=Lib.decDigits z.natAbs):=zc (by unfold itoaZ; rw [if_neg hz])
     clear hMl e0 hz
     go_wp2_with fail
     simp [bodyPost,results,Tryz.results181,go_sem]
     rw [HT.out]
     exact ⟨rfl,hx⟩
    ·have hz : z < 0 := by have := HBB.out; simpa using this
     have HT:Hid (itoaZ z=45 :: Lib.decDigits z.natAbs):=zc (by unfold itoaZ; rw [if_pos hz])
     clear hMl e0 hz
     go_wp2_with fail
     simp [bodyPost,results,Tryz.results181,go_sem]
     rw [HT.out,<- cat1]
     exact ⟨rfl,hx⟩
theorem za9 (r:ByteArray) (i:Nat):(r.extract i r.size).data.toList=r.data.toList.drop i:=by
 rw [ByteArray.data_extract]
 simp
 have:r.data.toList.length=r.size:=by simp
 rw [List.take_of_length_le (by rw [List.length_drop]; omega)]
theorem zdg (r:ByteArray) (i:Nat):(r.extract 0 i).data.toList=r.data.toList.take i:=by
 simp [ByteArray.data_extract]
theorem zeZ {l:List UInt8} (h:Digs l) (i:Nat):Digs (l.drop i):=fun b hb=>h b (List.mem_of_mem_drop hb)
theorem znz {l:List UInt8} (h:Digs l) (i:Nat):Digs (l.take i):=fun b hb=>h b (List.mem_of_mem_take hb)
structure PInv9 (w wr:World) (r:ByteArray) (ds:List Nat) (v:Value) (total L:Nat):Prop where
 dig:Digs r.data.toList
 lt:∀ x ∈ ds,x < B9
 val:zac r.data.toList * 10 ^ (9 * ds.length)+dval ds=total
 len:r.size+9 * ds.length=L
 own:OwnI wr v (ints ds)
 new:∀ g,v.ownBlock=some g -> w.heap.size <= g
 nxt:Nxt w wr
theorem PInv9.step {w wr w9:World} {r:ByteArray} {ds:List Nat} {v v9:Value} {total L m x:Nat} (H:PInv9 w wr r ds v total L) (hm:m+9=r.size) (hx:zac (r.data.toList.drop m)=x)
  (ho:OwnI w9 v9 (ints ds ++ [(x:Int)])) (hn:∀ g,v9.ownBlock=some g -> w.heap.size <= g) (hxw:Nxt w w9):PInv9 w w9 (r.extract 0 m) (ds ++ [x]) v9 total L/\x < B9:=by
 have hxb:x < B9:=by
  have h1:=zbc (zeZ H.dig m)
  rw [hx,List.length_drop] at h1
  have:r.data.toList.length=r.size:=by simp
  rw [this,show r.size - m=9 by omega] at h1
  exact h1
 refine ⟨⟨by rw [zdg]; exact znz H.dig m,?_,?_,?_,by rw [zb1]; exact ho,hn,hxw⟩,hxb⟩
 ·intro y hy
  rcases List.mem_append.1 hy with h | h
  ·exact H.lt y h
  ·rw [List.mem_singleton.1 h]; exact hxb
 ·have h1 := H.val
  have h2:zac r.data.toList=zac (r.data.toList.take m) * 10 ^ 9+x:=by
   conv=>lhs; rw [<- List.take_append_drop m r.data.toList,zbQ,hx]
   have:(r.data.toList.drop m).length=9:=by
    rw [List.length_drop]
    have:r.data.toList.length=r.size:=by simp
    omega
   rw [this]
  rw [zdg,zaL,List.length_append,List.length_singleton,<- h1,h2]
  have e:dval [x]=x:=by simp [dval]
  rw [e,zgC,Nat.mul_add,Nat.mul_one,Nat.pow_add,Nat.add_mul]
  have e2:zac (r.data.toList.take m) * (10 ^ (9 * ds.length) * 10 ^ 9)=zac (r.data.toList.take m) * 10 ^ 9 * 10 ^ (9 * ds.length):=by rw [Nat.mul_assoc,zw (10 ^ 9)]
  rw [e2,zw x]
  omega
 ·have := H.len
  rw [List.length_append,List.length_singleton,ByteArray.size_extract]
  omega
theorem zkr {r0:ByteArray} {l:List UInt8} {b:Bool} {w:World} (hs:r0.data.toList=(if b then 45 :: l else l)) (hd:Digs l) (hl:l.length <= 2 ^ 20):Calls Tryz.prog 175 #[.string r0] w (ZRet w (sgn b (zac l))):=by
 obtain ⟨total,ht⟩:∃ t,zac l=t:=⟨_,rfl⟩
 rw [ht]
 have hsz:r0.size=(if b then l.length+1 else l.length):=by
  have:r0.data.toList.length=r0.size:=by simp
  rw [<- this,hs]
  cases b <;> simp
 cases b
 ·simp only [Bool.false_eq_true, if_false] at hs hsz
  have HD:=zc (show Digs r0.data.toList by rw [hs]; exact hd)
  have HT:Hid (zac r0.data.toList=total):=zc (by rw [hs]; exact ht)
  have HSZ:Hid (r0.size <= 2 ^ 20):=zc (by rw [hsz]; exact hl)
  clear hd hl ht hs hsz
  by_cases h0:0 < r0.size
  ·have hgt : decide ((0 : Int) < (r0.size : Int)) = true := by simp; omega
   have h0':(0:Int) < (r0.size:Int):=by omega
   obtain ⟨c,hc⟩:∃ c,r0[0]=c:=⟨_,rfl⟩
   have hci:r0.data.toList[0]?=some c:=by
    have h2:r0.data[0]?=some r0[0]:=by rw [Array.getElem?_eq_getElem h0]; rfl
    rw [hc] at h2; simpa using h2
   have hne:((c.toNat:Int) == 45)=false:=by
    have:=HD.out c (zk hci)
    simp; omega
   clear hci
   have HD0:=HD; have HT0:=HT; have HS0:=HSZ
   go_enter Tryz.func175,Tryz.ntmps175
   go_wp2_with fail
   go_loopg [0,4] (0+r0.size) (fun gk s0 s4 wr=>∃ (r:ByteArray) (ds:List Nat) (A:Option Addr) (k c:Nat),gk=0+r.size/\s0 = .string r/\s4 = .slice A k c/\PInv9 w wr r ds (.slice A k c) total r0.size/\Blk wr w.heap.size 112 #[.bool false,.slice none 0 0])
   case atStart=>exact ⟨r0,[],none,0,0,rfl,rfl,rfl,⟨HD0.out,by simp,by simp [dval]; exact HT0.out,by simp,.inl ⟨rfl,rfl⟩,fun g hg=>(by cases hg),zaa⟩,Blk.new⟩
   case round=>
    obtain ⟨r,ds,A,k,c,rfl,rfl,rfl,hP,hRB⟩:=hrel
    have HP:=zc hP
    have HRB:=zc hRB
    clear hRB
    have hx:=hP.nxt
    have HSR:Hid (r.size <= 2 ^ 20/\ds.length <= 2 ^ 20):=zc (by have:=hP.len; have:=HS0.out; omega)
    clear hP
    have hsl:r.data.toList.length=r.size:=by simp
    have HSL:=zc hsl
    clear hsl
    by_cases h9:9 < r.size
    ·have hgt : decide ((9 : Int) < (r.size : Int)) = true := by simp; omega
     obtain ⟨m,hm⟩:∃ m,m+9=r.size:=⟨r.size - 9,by omega⟩
     have hw1:IntKind.i64.wrap ((r.size:Int) - 9)=(m:Int):=by have:=HSR.out; rw [zx]; omega
     have b1:(0:Int) <= (m:Int):=by omega
     have b2:(m:Int) <= (r.size:Int):=by omega
     have HM:=zc hm
     have hvs:(r.extract m r.size).size <= 18:=by rw [ByteArray.size_extract]; omega
     have hvd:Digs (r.extract m r.size).data.toList:=by rw [za9]; exact zeZ HP.out.dig m
     have HV:=zc (zds (w:=wr) hvs hvd)
     clear hm hvs hvd
     go_wp2_with fail
     refine zf HV.out ?_
     rintro e w5 ⟨rfl,hd5⟩
     rw [za9]
     obtain ⟨x,hxx⟩:∃ x,zac (r.data.toList.drop m)=x:=⟨_,rfl⟩
     rw [hxx]
     have HXX:=zc hxx
     have hx5:Nxt wr w5:=⟨hd5.below _⟩
     have hc8:(w5.alloc (.cells #[.int .i64 (x:Int)] 3)).cell? ⟨w5.heap.size,0,none⟩=some (.int .i64 (x:Int)):=World.cell?_alloc_new _ _ _ _
     have hx8:Nxt wr (w5.alloc (.cells #[.int .i64 (x:Int)] 3)):=zaa
     have HO:=zc (HP.out.own.nxt hx8)
     have HC8:=zc hc8
     have HX8:Hid (Nxt w (w5.alloc (.cells #[.int .i64 (x:Int)] 3))):=zc zaa
     have HRB8:Hid (Blk (w5.alloc (.cells #[.int .i64 (x:Int)] 3)) w.heap.size 112 #[.bool false,.slice none 0 0]):=zc (Blk.nxt (h:=hx8) (k:=HRB.out))
     clear hc8 hx8 hd5 hx5 hxx
     go_upto_region 7 with (at_builtin; refine zam rfl (.tmp 19) (.tmp 26) rfl (.slice A k c) (ints ds) rfl HO.out ⟨w5.heap.size,0,none⟩ 1 (x:Int) rfl HC8.out (by rw [zax]; have:=HSR.out; omega) ?_; intro v9 w9 ho9 hg9 hob9; obtain ⟨A9,n9,c9,rfl,hn9⟩:=ho9.form2; clear hn9)
     have HR:=zc (HP.out.step (w9:=w9) HM.out HXX.out ho9 (fun g hg=>by rcases hob9 g hg with h | h; exact HP.out.new g h; exact zo HX8.out.out.size h) (nxt_grown HX8.out hg9 (fun g hg=>HP.out.new g hg))).1
     have HRB9:=zc (za4 HRB8.out HO.out hg9 (by decide))
     clear ho9 hg9 hob9
     have hsz2:(r.extract 0 m).size=m:=by rw [ByteArray.size_extract]; have:=HM.out; omega
     have HSZ2:=zc hsz2
     clear hsz2
     go_wp2_with fail
     go_roundg (0+m)
     case rel=>exact ⟨r.extract 0 m,ds ++ [x],A9,n9,c9,by rw [HSZ2.out],rfl,rfl,HR.out,HRB9.out⟩
     case measure=>have:=HM.out; omega
    ·have hgt : decide ((9 : Int) < (r.size : Int)) = false := by simp; omega
     have HV:=zc (zds (w:=wr) (s:=r) (by omega) HP.out.dig)
     obtain ⟨x,hxx⟩:∃ x,zac r.data.toList=x:=⟨_,rfl⟩
     have hxb:x < B9:=by
      have h1:=zbc HP.out.dig
      rw [hxx,HSL.out] at h1
      have h2:10 ^ r.size <= 10 ^ 9:=Nat.pow_le_pow_right (by decide) (by omega)
      exact Nat.lt_of_lt_of_le h1 h2
     rw [hxx] at HV
     have HXB:=zc hxb
     have htot:dval (ds ++ [x])=total:=by
      have h1:=HP.out.val
      rw [hxx] at h1
      rw [zaL,<- h1,zgC]
      simp only [dval,Nat.mul_zero,Nat.add_zero]
      rw [zw x]; omega
     have HTOT:=zc htot
     clear hxx hxb htot h9
     go_wp2_with fail
     refine zf HV.out ?_
     rintro e w5 ⟨rfl,hd5⟩
     have hx5:Nxt wr w5:=⟨hd5.below _⟩
     have hc8:(w5.alloc (.cells #[.int .i64 (x:Int)] 3)).cell? ⟨w5.heap.size,0,none⟩=some (.int .i64 (x:Int)):=World.cell?_alloc_new _ _ _ _
     have hx8:Nxt wr (w5.alloc (.cells #[.int .i64 (x:Int)] 3)):=zaa
     have HO:=zc (HP.out.own.nxt hx8)
     have HC8:=zc hc8
     have HX8:Hid (Nxt w (w5.alloc (.cells #[.int .i64 (x:Int)] 3))):=zc zaa
     have HRB8:Hid (Blk (w5.alloc (.cells #[.int .i64 (x:Int)] 3)) w.heap.size 112 #[.bool false,.slice none 0 0]):=zc (Blk.nxt (h:=hx8) (k:=HRB.out))
     clear hc8 hx8 hd5 hx5
     go_wp2_with (at_builtin; refine zam rfl (.tmp 34) (.tmp 37) rfl (.slice A k c) (ints ds) rfl HO.out ⟨w5.heap.size,0,none⟩ 1 (x:Int) rfl HC8.out (by rw [zax]; have:=HSR.out; omega) ?_; intro v9 w9 ho9 hg9 hob9; obtain ⟨A9,n9,c9,rfl,hn9⟩:=ho9.form2; clear hn9)
     have hb9:=za4 HRB8.out HO.out hg9 (by decide)
     have hx9:Nxt w w9:=nxt_grown HX8.out hg9 (fun g hg=>HP.out.new g hg)
     have hdl:DigL w9 (.slice A9 n9 c9) (ds ++ [x]):=OwnI.dig (by rw [zb1]; exact ho9) (fun y hy=>by
      rcases List.mem_append.1 hy with h | h
      ·exact HP.out.lt y h
      ·rw [List.mem_singleton.1 h]; exact HXB.out)
     clear ho9 hg9 hob9
     refine zf (zaP (ds:=ds ++ [x])) ?_
     rintro e w10 ⟨⟨b2,s2⟩,rfl,hz,hx10⟩
     rw [HTOT.out] at hz
     go_wp2_with fail
     simp [bodyPost,results,Tryz.results175,go_sem]
     exact ⟨⟨b2,s2⟩,rfl,za,zaa⟩
  ·have hgt : decide ((0 : Int) < (r0.size : Int)) = false := decide_eq_false (by omega)
   have HD0:=HD; have HT0:=HT; have HS0:=HSZ
   go_enter Tryz.func175,Tryz.ntmps175
   go_wp2_with fail
   go_loopg [0,4] (0+r0.size) (fun gk s0 s4 wr=>∃ (r:ByteArray) (ds:List Nat) (A:Option Addr) (k c:Nat),gk=0+r.size/\s0 = .string r/\s4 = .slice A k c/\PInv9 w wr r ds (.slice A k c) total r0.size/\Blk wr w.heap.size 112 #[.bool false,.slice none 0 0])
   case atStart=>exact ⟨r0,[],none,0,0,rfl,rfl,rfl,⟨HD0.out,by simp,by simp [dval]; exact HT0.out,by simp,.inl ⟨rfl,rfl⟩,fun g hg=>(by cases hg),zaa⟩,Blk.new⟩
   case round=>
    obtain ⟨r,ds,A,k,c,rfl,rfl,rfl,hP,hRB⟩:=hrel
    have HP:=zc hP
    have HRB:=zc hRB
    clear hRB
    have hx:=hP.nxt
    have HSR:Hid (r.size <= 2 ^ 20/\ds.length <= 2 ^ 20):=zc (by have:=hP.len; have:=HS0.out; omega)
    clear hP
    have hsl:r.data.toList.length=r.size:=by simp
    have HSL:=zc hsl
    clear hsl
    by_cases h9:9 < r.size
    ·have hgt : decide ((9 : Int) < (r.size : Int)) = true := by simp; omega
     obtain ⟨m,hm⟩:∃ m,m+9=r.size:=⟨r.size - 9,by omega⟩
     have hw1:IntKind.i64.wrap ((r.size:Int) - 9)=(m:Int):=by have:=HSR.out; rw [zx]; omega
     have b1:(0:Int) <= (m:Int):=by omega
     have b2:(m:Int) <= (r.size:Int):=by omega
     have HM:=zc hm
     have hvs:(r.extract m r.size).size <= 18:=by rw [ByteArray.size_extract]; omega
     have hvd:Digs (r.extract m r.size).data.toList:=by rw [za9]; exact zeZ HP.out.dig m
     have HV:=zc (zds (w:=wr) hvs hvd)
     clear hm hvs hvd
     go_wp2_with fail
     refine zf HV.out ?_
     rintro e w5 ⟨rfl,hd5⟩
     rw [za9]
     obtain ⟨x,hxx⟩:∃ x,zac (r.data.toList.drop m)=x:=⟨_,rfl⟩
     rw [hxx]
     have HXX:=zc hxx
     have hx5:Nxt wr w5:=⟨hd5.below _⟩
     have hc8:(w5.alloc (.cells #[.int .i64 (x:Int)] 3)).cell? ⟨w5.heap.size,0,none⟩=some (.int .i64 (x:Int)):=World.cell?_alloc_new _ _ _ _
     have hx8:Nxt wr (w5.alloc (.cells #[.int .i64 (x:Int)] 3)):=zaa
     have HO:=zc (HP.out.own.nxt hx8)
     have HC8:=zc hc8
     have HX8:Hid (Nxt w (w5.alloc (.cells #[.int .i64 (x:Int)] 3))):=zc zaa
     have HRB8:Hid (Blk (w5.alloc (.cells #[.int .i64 (x:Int)] 3)) w.heap.size 112 #[.bool false,.slice none 0 0]):=zc (Blk.nxt (h:=hx8) (k:=HRB.out))
     clear hc8 hx8 hd5 hx5 hxx
     go_upto_region 7 with (at_builtin; refine zam rfl (.tmp 19) (.tmp 26) rfl (.slice A k c) (ints ds) rfl HO.out ⟨w5.heap.size,0,none⟩ 1 (x:Int) rfl HC8.out (by rw [zax]; have:=HSR.out; omega) ?_; intro v9 w9 ho9 hg9 hob9; obtain ⟨A9,n9,c9,rfl,hn9⟩:=ho9.form2; clear hn9)
     have HR:=zc (HP.out.step (w9:=w9) HM.out HXX.out ho9 (fun g hg=>by rcases hob9 g hg with h | h; exact HP.out.new g h; exact zo HX8.out.out.size h) (nxt_grown HX8.out hg9 (fun g hg=>HP.out.new g hg))).1
     have HRB9:=zc (za4 HRB8.out HO.out hg9 (by decide))
     clear ho9 hg9 hob9
     have hsz2:(r.extract 0 m).size=m:=by rw [ByteArray.size_extract]; have:=HM.out; omega
     have HSZ2:=zc hsz2
     clear hsz2
     go_wp2_with fail
     go_roundg (0+m)
     case rel=>exact ⟨r.extract 0 m,ds ++ [x],A9,n9,c9,by rw [HSZ2.out],rfl,rfl,HR.out,HRB9.out⟩
     case measure=>have:=HM.out; omega
    ·have hgt : decide ((9 : Int) < (r.size : Int)) = false := by simp; omega
     have HV:=zc (zds (w:=wr) (s:=r) (by omega) HP.out.dig)
     obtain ⟨x,hxx⟩:∃ x,zac r.data.toList=x:=⟨_,rfl⟩
     have hxb:x < B9:=by
      have h1:=zbc HP.out.dig
      rw [hxx,HSL.out] at h1
      have h2:10 ^ r.size <= 10 ^ 9:=Nat.pow_le_pow_right (by decide) (by omega)
      exact Nat.lt_of_lt_of_le h1 h2
     rw [hxx] at HV
     have HXB:=zc hxb
     have htot:dval (ds ++ [x])=total:=by
      have h1:=HP.out.val
      rw [hxx] at h1
      rw [zaL,<- h1,zgC]
      simp only [dval,Nat.mul_zero,Nat.add_zero]
      rw [zw x]; omega
     have HTOT:=zc htot
     clear hxx hxb htot h9
     go_wp2_with fail
     refine zf HV.out ?_
     rintro e w5 ⟨rfl,hd5⟩
     have hx5:Nxt wr w5:=⟨hd5.below _⟩
     have hc8:(w5.alloc (.cells #[.int .i64 (x:Int)] 3)).cell? ⟨w5.heap.size,0,none⟩=some (.int .i64 (x:Int)):=World.cell?_alloc_new _ _ _ _
     have hx8:Nxt wr (w5.alloc (.cells #[.int .i64 (x:Int)] 3)):=zaa
     have HO:=zc (HP.out.own.nxt hx8)
     have HC8:=zc hc8
     have HX8:Hid (Nxt w (w5.alloc (.cells #[.int .i64 (x:Int)] 3))):=zc zaa
     have HRB8:Hid (Blk (w5.alloc (.cells #[.int .i64 (x:Int)] 3)) w.heap.size 112 #[.bool false,.slice none 0 0]):=zc (Blk.nxt (h:=hx8) (k:=HRB.out))
     clear hc8 hx8 hd5 hx5
     go_wp2_with (at_builtin; refine zam rfl (.tmp 34) (.tmp 37) rfl (.slice A k c) (ints ds) rfl HO.out ⟨w5.heap.size,0,none⟩ 1 (x:Int) rfl HC8.out (by rw [zax]; have:=HSR.out; omega) ?_; intro v9 w9 ho9 hg9 hob9; obtain ⟨A9,n9,c9,rfl,hn9⟩:=ho9.form2; clear hn9)
     have hb9:=za4 HRB8.out HO.out hg9 (by decide)
     have hx9:Nxt w w9:=nxt_grown HX8.out hg9 (fun g hg=>HP.out.new g hg)
     have hdl:DigL w9 (.slice A9 n9 c9) (ds ++ [x]):=OwnI.dig (by rw [zb1]; exact ho9) (fun y hy=>by
      rcases List.mem_append.1 hy with h | h
      ·exact HP.out.lt y h
      ·rw [List.mem_singleton.1 h]; exact HXB.out)
     clear ho9 hg9 hob9
     refine zf (zaP (ds:=ds ++ [x])) ?_
     rintro e w10 ⟨⟨b2,s2⟩,rfl,hz,hx10⟩
     rw [HTOT.out] at hz
     go_wp2_with fail
     simp [bodyPost,results,Tryz.results175,go_sem]
     exact ⟨⟨b2,s2⟩,rfl,za,zaa⟩
 ·obtain ⟨s, hss⟩ : ∃ s, s = r0 := ⟨_, rfl⟩
  subst hss
  simp only [if_true] at hs hsz
  have h0:0 < s.size:=by omega
  have hgt:decide ((0:Int) < (s.size:Int))=true:=by simp; omega
  have h0':(0:Int) < (s.size:Int):=by omega
  obtain ⟨c,hc⟩:∃ c,s[0]=c:=⟨_,rfl⟩
  have hc45:c=45:=by
   have h2:s.data[0]?=some s[0]:=by rw [Array.getElem?_eq_getElem h0]; rfl
   have h3:s.data.toList[0]?=some c:=by rw [hc] at h2; simpa using h2
   rw [hs] at h3
   simpa using h3.symm
  have heq:((c.toNat:Int) == 45)=true:=by rw [hc45]; rfl
  have hb1:(1:Int) <= (s.size:Int):=by omega
  have hel:(s.extract 1 s.size).data.toList=l:=by rw [za9,hs]; rfl
  have HD0:=zc (show Digs (s.extract 1 s.size).data.toList by rw [hel]; exact hd)
  have HT0:Hid (zac (s.extract 1 s.size).data.toList=total):=zc (by rw [hel]; exact ht)
  have HS0:Hid ((s.extract 1 s.size).size <= 2 ^ 20):=zc (by rw [ByteArray.size_extract]; omega)
  clear hd hl ht hs hsz hel hc45
  go_enter Tryz.func175,Tryz.ntmps175
  go_wp2_with fail
  generalize s.extract 1 s.size=r0 at *
  go_loopg [0,4] (0+r0.size) (fun gk s0 s4 wr=>∃ (r:ByteArray) (ds:List Nat) (A:Option Addr) (k c:Nat),gk=0+r.size/\s0 = .string r/\s4 = .slice A k c/\PInv9 w wr r ds (.slice A k c) total r0.size/\Blk wr w.heap.size 112 #[.bool false,.slice none 0 0])
  case atStart=>exact ⟨r0,[],none,0,0,rfl,rfl,rfl,⟨HD0.out,by simp,by simp [dval]; exact HT0.out,by simp,.inl ⟨rfl,rfl⟩,fun g hg=>(by cases hg),zaa⟩,Blk.new⟩
  case round=>
   obtain ⟨r,ds,A,k,c,rfl,rfl,rfl,hP,hRB⟩:=hrel
   have HP:=zc hP
   have HRB:=zc hRB
   clear hRB
   have hx:=hP.nxt
   have HSR:Hid (r.size <= 2 ^ 20/\ds.length <= 2 ^ 20):=zc (by have:=hP.len; have:=HS0.out; omega)
   clear hP
   have hsl:r.data.toList.length=r.size:=by simp
   have HSL:=zc hsl
   clear hsl
   by_cases h9:9 < r.size
   ·have hgt : decide ((9 : Int) < (r.size : Int)) = true := by simp; omega
    obtain ⟨m,hm⟩:∃ m,m+9=r.size:=⟨r.size - 9,by omega⟩
    have hw1:IntKind.i64.wrap ((r.size:Int) - 9)=(m:Int):=by have:=HSR.out; rw [zx]; omega
    have b1:(0:Int) <= (m:Int):=by omega
    have b2:(m:Int) <= (r.size:Int):=by omega
    have HM:=zc hm
    have hvs:(r.extract m r.size).size <= 18:=by rw [ByteArray.size_extract]; omega
    have hvd:Digs (r.extract m r.size).data.toList:=by rw [za9]; exact zeZ HP.out.dig m
    have HV:=zc (zds (w:=wr) hvs hvd)
    clear hm hvs hvd
    go_wp2_with fail
    refine zf HV.out ?_
    rintro e w5 ⟨rfl,hd5⟩
    rw [za9]
    obtain ⟨x,hxx⟩:∃ x,zac (r.data.toList.drop m)=x:=⟨_,rfl⟩
    rw [hxx]
    have HXX:=zc hxx
    have hx5:Nxt wr w5:=⟨hd5.below _⟩
    have hc8:(w5.alloc (.cells #[.int .i64 (x:Int)] 3)).cell? ⟨w5.heap.size,0,none⟩=some (.int .i64 (x:Int)):=World.cell?_alloc_new _ _ _ _
    have hx8:Nxt wr (w5.alloc (.cells #[.int .i64 (x:Int)] 3)):=zaa
    have HO:=zc (HP.out.own.nxt hx8)
    have HC8:=zc hc8
    have HX8:Hid (Nxt w (w5.alloc (.cells #[.int .i64 (x:Int)] 3))):=zc zaa
    have HRB8:Hid (Blk (w5.alloc (.cells #[.int .i64 (x:Int)] 3)) w.heap.size 112 #[.bool false,.slice none 0 0]):=zc (Blk.nxt (h:=hx8) (k:=HRB.out))
    clear hc8 hx8 hd5 hx5 hxx
    go_upto_region 7 with (at_builtin; refine zam rfl (.tmp 19) (.tmp 26) rfl (.slice A k c) (ints ds) rfl HO.out ⟨w5.heap.size,0,none⟩ 1 (x:Int) rfl HC8.out (by rw [zax]; have:=HSR.out; omega) ?_; intro v9 w9 ho9 hg9 hob9; obtain ⟨A9,n9,c9,rfl,hn9⟩:=ho9.form2; clear hn9)
    have HR:=zc (HP.out.step (w9:=w9) HM.out HXX.out ho9 (fun g hg=>by rcases hob9 g hg with h | h; exact HP.out.new g h; exact zo HX8.out.out.size h) (nxt_grown HX8.out hg9 (fun g hg=>HP.out.new g hg))).1
    have HRB9:=zc (za4 HRB8.out HO.out hg9 (by decide))
    clear ho9 hg9 hob9
    have hsz2:(r.extract 0 m).size=m:=by rw [ByteArray.size_extract]; have:=HM.out; omega
    have HSZ2:=zc hsz2
    clear hsz2
    go_wp2_with fail
    go_roundg (0+m)
    case rel=>exact ⟨r.extract 0 m,ds ++ [x],A9,n9,c9,by rw [HSZ2.out],rfl,rfl,HR.out,HRB9.out⟩
    case measure=>have:=HM.out; omega
   ·have hgt : decide ((9 : Int) < (r.size : Int)) = false := by simp; omega
    have HV:=zc (zds (w:=wr) (s:=r) (by omega) HP.out.dig)
    obtain ⟨x,hxx⟩:∃ x,zac r.data.toList=x:=⟨_,rfl⟩
    have hxb:x < B9:=by
     have h1:=zbc HP.out.dig
     rw [hxx,HSL.out] at h1
     have h2:10 ^ r.size <= 10 ^ 9:=Nat.pow_le_pow_right (by decide) (by omega)
     exact Nat.lt_of_lt_of_le h1 h2
    rw [hxx] at HV
    have HXB:=zc hxb
    have htot:dval (ds ++ [x])=total:=by
     have h1:=HP.out.val
     rw [hxx] at h1
     rw [zaL,<- h1,zgC]
     simp only [dval,Nat.mul_zero,Nat.add_zero]
     rw [zw x]; omega
    have HTOT:=zc htot
    clear hxx hxb htot h9
    go_wp2_with fail
    refine zf HV.out ?_
    rintro e w5 ⟨rfl,hd5⟩
    have hx5:Nxt wr w5:=⟨hd5.below _⟩
    have hc8:(w5.alloc (.cells #[.int .i64 (x:Int)] 3)).cell? ⟨w5.heap.size,0,none⟩=some (.int .i64 (x:Int)):=World.cell?_alloc_new _ _ _ _
    have hx8:Nxt wr (w5.alloc (.cells #[.int .i64 (x:Int)] 3)):=zaa
    have HO:=zc (HP.out.own.nxt hx8)
    have HC8:=zc hc8
    have HX8:Hid (Nxt w (w5.alloc (.cells #[.int .i64 (x:Int)] 3))):=zc zaa
    have HRB8:Hid (Blk (w5.alloc (.cells #[.int .i64 (x:Int)] 3)) w.heap.size 112 #[.bool false,.slice none 0 0]):=zc (Blk.nxt (h:=hx8) (k:=HRB.out))
    clear hc8 hx8 hd5 hx5
    go_wp2_with (at_builtin; refine zam rfl (.tmp 34) (.tmp 37) rfl (.slice A k c) (ints ds) rfl HO.out ⟨w5.heap.size,0,none⟩ 1 (x:Int) rfl HC8.out (by rw [zax]; have:=HSR.out; omega) ?_; intro v9 w9 ho9 hg9 hob9; obtain ⟨A9,n9,c9,rfl,hn9⟩:=ho9.form2; clear hn9)
    have hb9:=za4 HRB8.out HO.out hg9 (by decide)
    have hx9:Nxt w w9:=nxt_grown HX8.out hg9 (fun g hg=>HP.out.new g hg)
    have hdl:DigL w9 (.slice A9 n9 c9) (ds ++ [x]):=OwnI.dig (by rw [zb1]; exact ho9) (fun y hy=>by
     rcases List.mem_append.1 hy with h | h
     ·exact HP.out.lt y h
     ·rw [List.mem_singleton.1 h]; exact HXB.out)
    clear ho9 hg9 hob9
    refine zf (zaP (ds:=ds ++ [x])) ?_
    rintro e w10 ⟨⟨b2,s2⟩,rfl,hz,hx10⟩
    rw [HTOT.out] at hz
    go_wp2_with fail
    simp [bodyPost,results,Tryz.results175,go_sem]
    exact ⟨⟨b2,s2⟩,rfl,za,zaa⟩
theorem zdi (n:Nat):Digs (Lib.decDigits n):=by
 induction n using Nat.strongRecOn with
 | _ n ih=>
  by_cases h:n < 10
  ·rw [zbP h]
   intro b hb
   rw [List.mem_singleton.1 hb,UInt8.toNat_ofNat']
   omega
  ·rw [zdj (by omega)]
   intro b hb
   rcases List.mem_append.1 hb with hb | hb
   ·exact ih (n / 10) (by omega) b hb
   ·rw [List.mem_singleton.1 hb, UInt8.toNat_ofNat']
    omega
theorem zcC (n:Nat):zac (Lib.decDigits n)=n:=by
 induction n using Nat.strongRecOn with
 | _ n ih=>
  by_cases h:n < 10
  ·rw [zbP h]
   simp [zac]
   omega
  ·rw [zdj (by omega), zcL, ih (n / 10) (by omega), UInt8.toNat_ofNat']
   omega
theorem zjj {l:List UInt8} (h:Digs l):∀ x ∈ l,x ≠ 47:=by
 intro x hx e
 have:=(h x hx).1
 rw [e] at this
 exact absurd this (by decide)
def fracL (b:Bool) (N D:List UInt8) (t:Bool):List UInt8:=(if b then 45 :: N else N) ++ (if t then 47 :: D else [])
theorem zbk (q:Rat):zad q=fracL (decide (q.num < 0)) (Lib.decDigits q.num.natAbs) (Lib.decDigits q.den) (decide (q.den ≠ 1)):=by
 unfold zad fracL itoaZ
 by_cases h:q.den=1
 ·simp [h]
 ·simp [h]
theorem zfg {a b:List UInt8} (h:∀ x ∈ a,x ≠ 47):zas (a ++ b)=a.length+zas b:=by
 unfold zas
 rw [List.takeWhile_append_of_pos (by simpa using h),List.length_append]
theorem zeu (t:Bool) (D:List UInt8):zas (if t then 47 :: D else [])=0:=by cases t <;> rfl
def fracN (b:Bool) (N:List UInt8):List UInt8:=if b then 45 :: N else N
theorem zfO {b:Bool} {N:List UInt8}:(fracN b N).length=if b then N.length+1 else N.length:=by cases b <;> rfl
theorem zng {b:Bool} {N:List UInt8} (h:Digs N):∀ x ∈ fracN b N,x ≠ 47:=by
 cases b
 ·exact zjj h
 ·intro x hx
  rcases List.mem_cons.1 hx with rfl | hx
  ·decide
  ·exact zjj h x hx
theorem zgL {b:Bool} {N D:List UInt8} {t:Bool} (h:Digs N):zas (fracL b N D t)=(fracN b N).length:=by
 show zas (fracN b N ++ _)=_
 rw [zfg (zng h),zeu,Nat.add_zero]
theorem zeX {b:Bool} {N D:List UInt8} {t:Bool}:(fracL b N D t).length=(fracN b N).length+(if t then D.length+1 else 0):=by
 show (fracN b N ++ _).length=_
 rw [List.length_append]
 cases t <;> rfl
theorem zlZ {b:Bool} {N D:List UInt8} {t:Bool}:(fracL b N D t).take (fracN b N).length=fracN b N:=by
 show (fracN b N ++ _).take _=_
 rw [List.take_left]
theorem zl0 {b:Bool} {N D:List UInt8}:(fracL b N D true).drop ((fracN b N).length+1)=D:=by
 show (fracN b N ++ 47 :: D).drop _=_
 rw [<- List.drop_drop,List.drop_left]
 rfl
theorem dl_wl {n k:Nat} (h:wl n <= k):dl n <= 3 * k:=by
 refine zba ?_
 have h1:n < B64 ^ k:=Nat.lt_of_lt_of_le (zaz n) (Nat.pow_le_pow_right (by unfold B64; omega) h)
 refine Nat.lt_of_lt_of_le h1 ?_
 rw [Nat.pow_mul]
 exact Nat.pow_le_pow_left (by unfold B64 B9; decide) _
theorem zis {n k:Nat} (h:wl n <= k) (hk:1 <= k):(Lib.decDigits n).length <= 20 * k:=by
 rw [Lib.decDigits_length]
 refine zem (by omega) ?_
 have h1:n < B64 ^ k:=Nat.lt_of_lt_of_le (zaz n) (Nat.pow_le_pow_right (by unfold B64; omega) h)
 refine Nat.lt_of_lt_of_le h1 ?_
 rw [Nat.pow_mul]
 exact Nat.pow_le_pow_left (by unfold B64; decide) _
theorem zdu {q:Rat} {k:Nat} (h:Sz q k):(zad q).length <= 40 * k+42:=by
 rw [zbk,zeX,zfO]
 have h1:=zis (n:=q.num.natAbs) (k:=k+1) (Nat.le_succ_of_le h.num) (by omega)
 have h2:=zis (n:=q.den) (k:=k+1) (Nat.le_succ_of_le h.den) (by omega)
 split <;> split <;> omega
theorem ziY {s:ByteArray} {b:Bool} {N:List UInt8} {w:World} (hs:s.data.toList=fracN b N) (hd:Digs N) (hl:N.length <= 2 ^ 20):Calls Tryz.prog 175 #[.string s] w (ZRet w (sgn b (zac N))):=
 zkr hs hd hl
theorem zn0 {a b:Nat} {w:World} (ha:a < 2 ^ 62) (hb:b < 2 ^ 62):Calls Tryz.prog 205 #[.int .i64 (a:Int),.int .i64 (b:Int)] w (fun e w'=>e = .returned (.int .i64 (Nat.gcd a b:Int))/\Drew w w'):=by
 have HA:=zc ha; have HB:=zc hb
 obtain ⟨G,hG⟩:∃ G,Nat.gcd a b=G:=⟨_,rfl⟩
 rw [hG]
 have HG:=zc hG
 clear ha hb hG
 go_enter Tryz.func205,Tryz.ntmps205
 go_wp2_with fail
 go_loopg [0,1] (0+b) (fun gk s0 s1 wr=>∃ m n:Nat,gk=0+n/\s0 = .int .i64 (m:Int)/\s1 = .int .i64 (n:Int)/\m < 2 ^ 62/\n < 2 ^ 62/\Nat.gcd m n=G/\Drew w wr)
 case atStart=>exact ⟨a,b,rfl,rfl,rfl,HA.out,HB.out,HG.out,Drew.refl _⟩
 case round=>
  obtain ⟨m,n,rfl,rfl,rfl,hm,hn,hg,hd⟩:=hrel
  have HM:=zc hm; have HN:=zc hn; have HGG:=zc hg; have HD:=zc hd
  clear hm hn hg hd
  by_cases h0:n=0
  ·subst h0
   go_wp2_with fail
   go_ret
   have:=HGG.out
   rw [Nat.gcd_zero_right] at this
   subst this
   exact ⟨rfl,HD.out⟩
  ·have hp : decide ((0 : Int) < (n : Int)) = true := by simp; omega
   have hnz:((n:Int) == 0)=false:=by simp; omega
   obtain ⟨r,hr⟩:∃ r,m % n=r:=⟨_,rfl⟩
   have hrn:r < n:=by rw [<- hr]; exact Nat.mod_lt _ (by omega)
   have r1:=zeQ (a:=m) (b:=n) hr (by have:=HN.out; omega)
   have e1:Int.tmod (m:Int) (n:Int)=(r:Int):=r1.1
   have e2:(m:Int) % (n:Int)=(r:Int):=r1.2.1
   have e3:=r1.2.2
   have hgr:Nat.gcd n r=G:=by rw [<- HGG.out,Nat.gcd_comm m n,Nat.gcd_rec n m,Nat.gcd_comm,<- hr]
   have HGR:=zc hgr; have HRN:=zc hrn
   have HN0:=zc h0
   clear r1 hr hgr hrn h0
   go_wp2_with fail
   ·go_quiet (fail)
    all_goals go_wp2_with fail
    go_roundg (0+r)
    case rel=>exact ⟨n,r,rfl,rfl,rfl,HN.out,by have:=HRN.out; have:=HN.out; omega,HGR.out,by first | exact HD.out | exact HD.out.more _⟩
    case measure=>have:=HRN.out; omega
   ·exfalso; have:=HN0.out; omega
theorem zmK {z:Int} {d:Nat} (hd:0 < d):(Int.tmod z d).natAbs=z.natAbs % d:=by
 rw [Int.natAbs_tmod]; rfl
theorem zjC {z:Int} {d:Nat}:(Int.tdiv z d).natAbs=z.natAbs / d:=by
 rw [Int.natAbs_tdiv]; rfl
structure WhInv (w wr:World) (z:Int) (ds:List Nat) (v:Value) (total:Nat):Prop where
 lt:∀ x ∈ ds,x < B9
 val:z.natAbs * B9 ^ ds.length+dval ds=total
 own:OwnI wr v (ints ds)
 new:∀ g,v.ownBlock=some g -> w.heap.size <= g
 nxt:Nxt w wr
theorem WhInv.step {w wr w9:World} {z:Int} {ds:List Nat} {v v9:Value} {total x:Nat} (H:WhInv w wr z ds v total) (hx:z.natAbs % B9=x)
  (ho:OwnI w9 v9 (ints ds ++ [(x:Int)])) (hn:∀ g,v9.ownBlock=some g -> w.heap.size <= g) (hxw:Nxt w w9):WhInv w w9 (Int.tdiv z 1000000000) (ds ++ [x]) v9 total:=by
 refine ⟨?_,?_,by rw [zb1]; exact ho,hn,hxw⟩
 ·intro y hy
  rcases List.mem_append.1 hy with h | h
  ·exact H.lt y h
  ·rw [List.mem_singleton.1 h,<- hx]; exact Nat.mod_lt _ zaC
 ·have h1 := H.val
  have h2:(Int.tdiv z 1000000000).natAbs=z.natAbs / B9:=zjC (z:=z) (d:=B9)
  have h3:=Nat.div_add_mod z.natAbs B9
  rw [hx] at h3
  rw [h2,zaL,List.length_append,List.length_singleton,<- h1,Nat.pow_succ]
  have e:dval [x]=x:=by simp [dval]
  rw [e]
  conv=>rhs; rw [<- h3]
  rw [Nat.add_mul,zw B9 (z.natAbs / B9),Nat.mul_assoc,zw B9 (B9 ^ ds.length),zw x]
  omega
theorem zmI {z:Int} {w:World} (h1 : -(2 ^ 62) < z) (h2:z < 2 ^ 62):Calls Tryz.prog 176 #[.int .i64 z] w (ZRet w z):=by
 have HB:Hid (z.natAbs < 2 ^ 62):=zc (by omega)
 obtain ⟨b,hb⟩:∃ b,decide (z < 0)=b:=⟨_,rfl⟩
 have HS:Hid (sgn b z.natAbs=z):=zc (by rw [<- hb]; exact zcj z)
 have hb':=hb
 clear h1 h2
 go_enter Tryz.func176,Tryz.ntmps176
 go_wp2_with fail
 go_loopg [0,3] (0+z.natAbs) (fun gk s0 s3 wr=>∃ (u:Int) (ds:List Nat) (A:Option Addr) (k c:Nat),gk=0+u.natAbs/\s0 = .int .i64 u/\s3 = .slice A k c/\u.natAbs < B9 ^ (7 - ds.length)/\ds.length <= 7/\WhInv w wr u ds (.slice A k c) z.natAbs/\Blk wr w.heap.size 112 #[.bool false,.slice none 0 0])
 case atStart=>exact ⟨z,[],none,0,0,rfl,rfl,rfl,Nat.lt_trans HB.out (by unfold B9; decide),by simp,⟨(fun x hx=>(by cases hx)),(by simp [dval]),.inl ⟨rfl,rfl⟩,fun g hg=>(by cases hg),zaa⟩,Blk.new⟩
 case round=>
  obtain ⟨u,ds,A,k,c,rfl,rfl,rfl,hu,hl,hP,hRB⟩:=hrel
  have HP:=zc hP
  have HRB:=zc hRB
  have hx:=hP.nxt
  have hu62:u.natAbs < 2 ^ 63:=by
   have h1:=hP.val
   have h2:1 <= B9 ^ ds.length:=Nat.one_le_pow _ _ zaC
   have h3:=Nat.mul_le_mul_left u.natAbs h2
   have h4:=HB.out
   omega
  have HU:=zc hu; have HL:=zc hl; have HU2:=zc hu62
  clear hRB hP hu hl hu62
  by_cases h0:u=0
  ·subst h0
   have hne:((0:Int) != 0)=false:=rfl
   have hdl:DigL wr (.slice A k c) ds:=OwnI.dig HP.out.own HP.out.lt
   have hb9:=HRB.out
   have hval:dval ds=z.natAbs:=by have:=HP.out.val; simpa using this
   have HV:=zc hval
   clear hval
   go_wp2_with fail
   refine zf (zaP (ds:=ds)) ?_
   rintro e w10 ⟨⟨b2,s2⟩,rfl,hz,hx10⟩
   rw [HV.out,HS.out] at hz
   go_wp2_with fail
   simp [bodyPost,results,Tryz.results176,go_sem]
   exact ⟨⟨b2,s2⟩,rfl,za,zaa⟩
  ·have hne : (u != 0) = true := by simpa using h0
   have hlt7:ds.length < 7:=by
    rcases Nat.lt_or_ge ds.length 7 with h | h
    ·exact h
    ·have := HU.out
     rw [show 7 - ds.length=0 by omega,Nat.pow_zero] at this
     omega
   obtain ⟨x,hx9⟩:∃ x,u.natAbs % B9=x:=⟨_,rfl⟩
   obtain ⟨q,hq⟩:∃ q,Int.tdiv u 1000000000=q:=⟨_,rfl⟩
   have hqa:q.natAbs=u.natAbs / B9:=by rw [<- hq]; exact zjC (z:=u) (d:=B9)
   have hqb:q.natAbs < B9 ^ (7 - (ds.length+1)):=by
    rw [hqa,Nat.div_lt_iff_lt_mul zaC,<- Nat.pow_succ,show (7 - (ds.length+1)).succ=7 - ds.length by omega]
    exact HU.out
   have hqm:q.natAbs < u.natAbs:=by rw [hqa]; exact Nat.div_lt_self (by omega) (by unfold B9; omega)
   have hxb:x < B9:=by rw [<- hx9]; exact Nat.mod_lt _ zaC
   obtain ⟨r,hr⟩:∃ r,Int.tmod u 1000000000=r:=⟨_,rfl⟩
   have hra:r.natAbs=x:=by rw [<- hr,<- hx9]; exact zmK (z:=u) (d:=B9) zaC
   have hwr:IntKind.i64.wrap r=r:=by rw [zx]; unfold B9 at hxb; omega
   have hwq:IntKind.i64.wrap q=q:=by rw [zx]; have:=HU2.out; omega
   have HX9:=zc hx9; have HQ:=zc hq; have HQB:=zc hqb; have HQM:=zc hqm; have HL7:=zc hlt7
   have HSL:Hid (ds.length < 2 ^ 30):=zc (by omega)
   by_cases hneg:r < 0
   ·have hdn : decide (r < 0) = true := by simp; omega
    have hsub:IntKind.i64.wrap (-r)=(x:Int):=by rw [zx]; unfold B9 at hxb; omega
    clear hqa hqb hqm hxb hx9 hra hlt7
    have hc8:(wr.alloc (.cells #[.int .i64 (x:Int)] 3)).cell? ⟨wr.heap.size,0,none⟩=some (.int .i64 (x:Int)):=World.cell?_alloc_new _ _ _ _
    have hx8:Nxt wr (wr.alloc (.cells #[.int .i64 (x:Int)] 3)):=zaa
    have HO:=zc (HP.out.own.nxt hx8)
    have HC8:=zc hc8
    have HX8:Hid (Nxt w (wr.alloc (.cells #[.int .i64 (x:Int)] 3))):=zc zaa
    have HRB8:Hid (Blk (wr.alloc (.cells #[.int .i64 (x:Int)] 3)) w.heap.size 112 #[.bool false,.slice none 0 0]):=zc (Blk.nxt (h:=hx8) (k:=HRB.out))
    clear hc8 hx8
    go_wp2_with (at_builtin; refine zam rfl (.tmp 16) (.tmp 18) rfl (.slice A k c) (ints ds) rfl HO.out ⟨wr.heap.size,0,none⟩ 1 (x:Int) rfl HC8.out (by rw [zax]; exact HSL.out) ?_; intro v9 w9 ho9 hg9 hob9; obtain ⟨A9,n9,c9,rfl,hn9⟩:=ho9.form2; clear hn9)
    have HR:=zc (HP.out.step (w9:=w9) HX9.out ho9 (fun g hg=>by rcases hob9 g hg with h | h; exact HP.out.new g h; exact zo HX8.out.out.size h) (nxt_grown HX8.out hg9 (fun g hg=>HP.out.new g hg)))
    rw [HQ.out] at HR
    have HRB9:=zc (za4 HRB8.out HO.out hg9 (by decide))
    clear ho9 hg9 hob9
    go_wp2_with fail
    go_roundg (0+q.natAbs)
    case rel=>exact ⟨q,ds ++ [x],A9,n9,c9,rfl,rfl,rfl,by rw [List.length_append]; exact HQB.out,by rw [List.length_append]; exact HL7.out,HR.out,HRB9.out⟩
    case measure=>have:=HQM.out; omega
   ·have hdn : decide (r < 0) = false := by simp; omega
    obtain rfl:r=(x:Int):=by omega
    clear hqa hqb hqm hxb hx9 hra hlt7
    have hc8:(wr.alloc (.cells #[.int .i64 (x:Int)] 3)).cell? ⟨wr.heap.size,0,none⟩=some (.int .i64 (x:Int)):=World.cell?_alloc_new _ _ _ _
    have hx8:Nxt wr (wr.alloc (.cells #[.int .i64 (x:Int)] 3)):=zaa
    have HO:=zc (HP.out.own.nxt hx8)
    have HC8:=zc hc8
    have HX8:Hid (Nxt w (wr.alloc (.cells #[.int .i64 (x:Int)] 3))):=zc zaa
    have HRB8:Hid (Blk (wr.alloc (.cells #[.int .i64 (x:Int)] 3)) w.heap.size 112 #[.bool false,.slice none 0 0]):=zc (Blk.nxt (h:=hx8) (k:=HRB.out))
    clear hc8 hx8
    go_wp2_with (at_builtin; refine zam rfl (.tmp 16) (.tmp 18) rfl (.slice A k c) (ints ds) rfl HO.out ⟨wr.heap.size,0,none⟩ 1 (x:Int) rfl HC8.out (by rw [zax]; exact HSL.out) ?_; intro v9 w9 ho9 hg9 hob9; obtain ⟨A9,n9,c9,rfl,hn9⟩:=ho9.form2; clear hn9)
    have HR:=zc (HP.out.step (w9:=w9) HX9.out ho9 (fun g hg=>by rcases hob9 g hg with h | h; exact HP.out.new g h; exact zo HX8.out.out.size h) (nxt_grown HX8.out hg9 (fun g hg=>HP.out.new g hg)))
    rw [HQ.out] at HR
    have HRB9:=zc (za4 HRB8.out HO.out hg9 (by decide))
    clear ho9 hg9 hob9
    go_wp2_with fail
    go_roundg (0+q.natAbs)
    case rel=>exact ⟨q,ds ++ [x],A9,n9,c9,rfl,rfl,rfl,by rw [List.length_append]; exact HQB.out,by rw [List.length_append]; exact HL7.out,HR.out,HRB9.out⟩
    case measure=>have:=HQM.out; omega
theorem zb4 {w:World} {A:Option Addr} {k c q:Nat} (h:DigIs w (.slice A k c) q) (hk:k=1):∃ ad,A=some ad/\w.cell? (ad.add 0)=some (.int .i64 (q:Int)):=by
 have hl:=h.len
 have h1:digs q=[q]:=by
  have h2:(digs q).length=1:=by show dl q=1; omega
  have h3:=zai q
  match hq:digs q,h2 with
  | [x],_=>
   rw [hq] at h3
   simp [dval] at h3
   rw [h3]
 obtain ⟨ad,e,_,hc⟩:=(h.list.at_.2.2.2).at_ 0 q (by rw [h1]; rfl)
 exact ⟨ad,e,hc⟩
theorem zdX {q:Nat} (h:q=1):dl q=1:=by
 subst h
 have h1:=zf0 (show (1:Nat) ≠ 0 by decide)
 have h2:=zba (n:=1) (k:=1) (by unfold B9; decide)
 omega
theorem zeV {z:Int} {k:Nat} (h:wl z.natAbs <= k):(itoaZ z).length <= 20 * k+21:=by
 have:=zis (n:=z.natAbs) (k:=k+1) (Nat.le_succ_of_le h) (by omega)
 unfold itoaZ
 split
 ·rw [List.length_cons]; omega
 ·omega
theorem cat3 (a b:List UInt8) (c:UInt8):Value.string ((⟨a.toArray⟩:ByteArray) ++ ⟨#[c]⟩ ++ ⟨b.toArray⟩)=str (a ++ c :: b):=by
 have e:((⟨a.toArray⟩:ByteArray) ++ ⟨#[c]⟩ ++ ⟨b.toArray⟩)=⟨(a ++ c :: b).toArray⟩:=by
  apply ByteArray.ext
  rw [ByteArray.data_append,ByteArray.data_append]
  simp
 rw [e]
theorem zfV {x y:Int}:Rat.divInt (-x) (-y)=Rat.divInt x y:=Rat.neg_divInt_neg ..
theorem ZIs.parts {w:World} {s:IV} {z:Int} (h:ZIs w s.v z):s.b=decide (z < 0)/\DigIs w s.m.v z.natAbs:=by
 obtain ⟨m,e,hm⟩:=h
 injection e with e
 have e1:Value.bool s.b=Value.bool (decide (z < 0)):=by have:=congrArg (fun a=>a[0]?) e; simpa using this
 have e2:s.m.v=m:=by have:=congrArg (fun a=>a[1]?) e; simpa using this
 injection e1 with e1
 exact ⟨e1,by rw [e2]; exact hm⟩
theorem zcp {x y:Int} (hy:0 < y):zad (Rat.divInt x y)=itoaZ (sgn (decide (x < 0)) (x.natAbs / Nat.gcd x.natAbs y.natAbs)) ++ (if y.natAbs / Nat.gcd x.natAbs y.natAbs=1 then [] else 47 :: itoaZ ((y.natAbs / Nat.gcd x.natAbs y.natAbs:Nat):Int)):=by
 obtain ⟨p1,p2⟩:=zc1 (x:=x) (y:=y) (by omega)
 unfold zad
 rw [p1,p2,zcZ,show decide (y < 0)=false from decide_eq_false (by omega),Bool.bne_false]
theorem zbH {v1 v2:Value} {x y:Int} {a b:Nat} {w:World} [h1:ZIs w v1 x] [h2:ZIs w v2 y] [d1:Wd x a] [d2:Wd y b] (hy:y ≠ 0) (ha:a <= 2 ^ 21) (hb:b <= 2 ^ 21):
  Calls Tryz.prog 137 #[v1,v2] w (PRet w (str (zad (Rat.divInt x y)))):=by
 obtain ⟨T,hT⟩:∃ T,zad (Rat.divInt x y)=T:=⟨_,rfl⟩
 rw [hT]
 have HT:=zc hT; have HY:=zc hy; have HD1:=zc d1; have HD2:=zc d2
 have HA:=zc ha; have HB:=zc hb
 obtain ⟨⟨s1,m1⟩,rfl,HB1,hd1,hk1⟩:=h1.form
 obtain ⟨⟨s2,m2⟩,rfl,HB2,hd2,hk2⟩:=h2.form
 have hl1:dl x.natAbs <= 2 ^ 24:=zo (dl_wl d1.out) (by omega)
 have hl2:dl y.natAbs <= 2 ^ 24:=zo (dl_wl d2.out) (by omega)
 have hg0:Nat.gcd x.natAbs y.natAbs ≠ 0:=fun e=>hy (Int.natAbs_eq_zero.1 (Nat.eq_zero_of_gcd_eq_zero_right e))
 have hq0:y.natAbs / Nat.gcd x.natAbs y.natAbs ≠ 0:=by
  have:=Nat.div_pos (Nat.le_of_dvd (Int.natAbs_pos.2 hy) (Nat.gcd_dvd_right x.natAbs y.natAbs)) (Nat.pos_of_ne_zero hg0)
  omega
 have hqw1:wl (x.natAbs / Nat.gcd x.natAbs y.natAbs) <= a:=zo (zar (Nat.div_le_self _ _)) d1.out
 have hqw2:wl (y.natAbs / Nat.gcd x.natAbs y.natAbs) <= b:=zo (zar (Nat.div_le_self _ _)) d2.out
 have L1:=zc hl1; have L2:=zc hl2; have HG0:=zc hg0; have HQ0:=zc hq0; have HQ1:=zc hqw1; have HQ2:=zc hqw2
 have e1:=HB1.out
 have e2:=HB2.out
 simp only at e1 e2
 have h1s:=h1
 have h2s:=h2
 clear hT hy ha hb d1 d2 hl1 hl2 hg0 hq0 hqw1 hqw2
 cases s2
 ·have hyp:0 < y:=by
   have h:=e2; have h0:=HY.out; have:¬ y < 0:=by simpa using h
   omega
  have hTX:T=itoaZ (sgn s1 (x.natAbs / Nat.gcd x.natAbs y.natAbs)) ++ (if y.natAbs / Nat.gcd x.natAbs y.natAbs=1 then [] else 47 :: itoaZ ((y.natAbs / Nat.gcd x.natAbs y.natAbs:Nat):Int)):=by
   rw [<- HT.out,zcp hyp,<- e1]
  have HTX:=zc hTX
  obtain ⟨An,kn,cn⟩:=m1
  obtain ⟨Ad,kd,cd⟩:=m2
  clear hyp hTX e1 e2
  go_enter Tryz.func137,Tryz.ntmps137
  go_wp2_with fail
  generalize x.natAbs=X at *
  generalize y.natAbs=Y at *
  refine zf (zd4 (a:=X) (b:=Y) L1.out L2.out) ?_
  rintro e w3 ⟨⟨Ag,kg,cg⟩,rfl,hg,hx3⟩
  go_wp2_with fail
  refine zf (zcn (a:=X) (b:=Nat.gcd X Y) HG0.out L1.out) ?_
  rintro e w4 ⟨⟨A1,k1,c1⟩,⟨A2,k2,c2⟩,rfl,hq1,hr1,hx4⟩
  go_wp2_with fail
  refine zf (zcn (a:=Y) (b:=Nat.gcd X Y) HG0.out L2.out) ?_
  rintro e w5 ⟨⟨A3,k3,c3⟩,⟨A4,k4,c4⟩,rfl,hq2,hr2,hx5⟩
  have hq1l:=hq1.list
  have hq2l:=hq2.list
  have hw4:Nxt w w5:=zaa
  obtain ⟨p,hp⟩:∃ p,X / Nat.gcd X Y=p:=⟨_,rfl⟩
  obtain ⟨q,hq⟩:∃ q,Y / Nat.gcd X Y=q:=⟨_,rfl⟩
  rw [hp] at hq1 hq1l
  rw [hq] at hq2 hq2l
  have HTX2:=HTX.out
  rw [hp,hq] at HTX2
  have HTQ:=zc HTX2
  have HP1:Hid (wl p <= a):=zc (by rw [<- hp]; exact HQ1.out)
  have HP2:Hid (wl q <= b):=zc (by rw [<- hq]; exact HQ2.out)
  have HQN:Hid (q ≠ 0):=zc (by rw [<- hq]; exact HQ0.out)
  have hk3:=hq2.len
  have HK3:=zc hk3
  clear HTX2 hp hq hk3
  go_wp2_with fail
  refine zf (zaP (ds:=digs p)) ?_
  rintro e w6 ⟨⟨b6,⟨A6,k6,c6⟩⟩,rfl,hz6,hx6⟩
  rw [zai] at hz6
  go_wp2_with fail
  refine zf (zd9 (z:=sgn s1 p) (by rw [zaq]; exact zo (dl_wl HP1.out) (by have:=HA.out; omega))) ?_
  rintro e w7 ⟨rfl,hx7⟩
  have hlp:(itoaZ (sgn s1 p)).length <= 20 * a+21:=zeV (by rw [zaq]; exact HP1.out)
  have hlq:(itoaZ (q:Int)).length <= 20 * b+21:=zeV (z:=(q:Int)) HP2.out
  have hcat1:¬ (9223372036854775807 < (itoaZ (sgn s1 p)).length+1):=by have:=HA.out; omega
  have hcat2:¬ (9223372036854775807 < (itoaZ (sgn s1 p)).length+1+(itoaZ (q:Int)).length):=by have:=HA.out; have:=HB.out; omega
  have hcat3:¬ (9223372036854775807 < (itoaZ (sgn s1 p)).length+(1+(itoaZ (q:Int)).length)):=by have:=HA.out; have:=HB.out; omega
  clear hlp hlq
  have hq2m:DigL w7 (.slice A3 k3 c3) (digs q):=za
  by_cases hone:q=1
  ·have hk1 : k3 = 1 := by rw [HK3.out]; exact zdX hone
   subst hk1
   obtain ⟨ad,rfl,hc⟩:=zb4 (show DigIs w7 (.slice A3 1 c3) q from za) rfl
   rw [hone] at hc
   have hc2:w7.cell? ad=some (.int .i64 ((1:Nat):Int)):=by rw [show ad.add 0=ad by unfold Addr.add; simp] at hc; exact hc
   have HO:=zc hone
   clear hone
   go_wp2_with fail
   go_ret
   refine ⟨?_,zaa⟩
   rw [HTQ.out,if_pos HO.out,List.append_nil]; rfl
  ·have HO := zc hone
   have HTI:=zc (show T=itoaZ (sgn s1 p) ++ 47 :: itoaZ (q:Int) by rw [HTQ.out,if_neg HO.out])
   by_cases hk1:k3=1
   ·subst hk1
    obtain ⟨ad,rfl,hc⟩:=zb4 (show DigIs w7 (.slice A3 1 c3) q from za) rfl
    have hc2:w7.cell? ad=some (.int .i64 (q:Int)):=by rw [show ad.add 0=ad by unfold Addr.add; simp] at hc; exact hc
    have hq1':((q:Int) == 1)=false:=by rw [beq_eq_false_iff_ne]; omega
    clear hone
    go_wp2_with fail
    refine zf (zaP (ds:=digs q)) ?_
    rintro e w8 ⟨⟨b8,⟨A8,k8,c8⟩⟩,rfl,hz8,hx8⟩
    rw [zai,show sgn false q=(q:Int) from rfl] at hz8
    go_wp2_with fail
    refine zf (zd9 (z:=(q:Int)) (zo (dl_wl HP2.out) (by have:=HB.out; omega))) ?_
    rintro e w9 ⟨rfl,hx9⟩
    go_wp2_with fail
    go_ret
    refine ⟨?_,zaa⟩
    rw [HTI.out,<- cat3]; rfl
   ·have hk1' : ((k3 : Int) == 1) = false := by rw [beq_eq_false_iff_ne]; omega
    clear hone
    go_wp2_with fail
    refine zf (zaP (ds:=digs q)) ?_
    rintro e w8 ⟨⟨b8,⟨A8,k8,c8⟩⟩,rfl,hz8,hx8⟩
    rw [zai,show sgn false q=(q:Int) from rfl] at hz8
    go_wp2_with fail
    refine zf (zd9 (z:=(q:Int)) (zo (dl_wl HP2.out) (by have:=HB.out; omega))) ?_
    rintro e w9 ⟨rfl,hx9⟩
    go_wp2_with fail
    go_ret
    refine ⟨?_,zaa⟩
    rw [HTI.out,<- cat3]; rfl
 ·have hyn : y < 0 := by have h := e2; simpa using h.symm
  have hTX:T=itoaZ (sgn (decide (-x < 0)) (x.natAbs / Nat.gcd x.natAbs y.natAbs)) ++ (if y.natAbs / Nat.gcd x.natAbs y.natAbs=1 then [] else 47 :: itoaZ ((y.natAbs / Nat.gcd x.natAbs y.natAbs:Nat):Int)):=by
   rw [<- HT.out,<- zfV,zcp (by omega),Int.natAbs_neg,Int.natAbs_neg]
  have HTX0:=zc hTX
  have b0:Blk ((w.alloc (.cells #[.bool s1,m1.v] 112)).alloc (.cells #[.bool true,m2.v] 112)) w.heap.size 112 #[.bool s1,m1.v]:=za
  have b1:Blk ((w.alloc (.cells #[.bool s1,m1.v] 112)).alloc (.cells #[.bool true,m2.v] 112)) (w.heap.size+1) 112 #[.bool true,m2.v]:=za
  clear hyn hTX e1 e2
  go_enter Tryz.func137,Tryz.ntmps137
  go_upto_region 2 with fail
  go_cut [11,12] (fun t11 t12 wx=>∃ (n d:IV),Blk wx w.heap.size 112 #[.bool n.b,n.m.v]/\Blk wx (w.heap.size+1) 112 #[.bool d.b,d.m.v]/\ZIs wx n.v (-x)/\ZIs wx d.v (-y)/\Nxt w wx)
  case first=>
   go_region_with ((first | (go_at_call 207; refine zf (zjV (x:=x)) ?_; rintro e w1 ⟨⟨bn,⟨An,kn,cn⟩⟩,rfl,hn1,hxn⟩) | (go_at_call 207; refine zf (zjV (x:=y)) ?_; rintro e w2 ⟨⟨bd,⟨Ad,kd,cd⟩⟩,rfl,hn2,hxd⟩)))
   all_goals go_wp2_with fail
   all_goals go_meet
   all_goals exact ⟨⟨bn,⟨An,kn,cn⟩⟩,⟨bd,⟨Ad,kd,cd⟩⟩,za,za,za,za,zaa⟩
  case rest=>
   obtain ⟨⟨s1,⟨An,kn,cn⟩⟩,⟨bd,⟨Ad,kd,cd⟩⟩,bl1,bl2,z1,z2,hx0⟩:=hcut
   obtain ⟨f1,hd1⟩:=z1.parts
   obtain ⟨f2,hd2⟩:=z2.parts
   simp only at f1 f2 hd1 hd2 bl1 bl2
   rw [Int.natAbs_neg] at hd1 hd2
   have HTX:Hid (T=itoaZ (sgn s1 (x.natAbs / Nat.gcd x.natAbs y.natAbs)) ++ (if y.natAbs / Nat.gcd x.natAbs y.natAbs=1 then [] else 47 :: itoaZ ((y.natAbs / Nat.gcd x.natAbs y.natAbs:Nat):Int))):=zc (by rw [f1]; exact HTX0.out)
   clear f1 f2 z1 z2 HTX0
   go_wp2_with fail
   generalize x.natAbs=X at *
   generalize y.natAbs=Y at *
   refine zf (zd4 (a:=X) (b:=Y) L1.out L2.out) ?_
   rintro e w3 ⟨⟨Ag,kg,cg⟩,rfl,hg,hx3⟩
   go_wp2_with fail
   refine zf (zcn (a:=X) (b:=Nat.gcd X Y) HG0.out L1.out) ?_
   rintro e w4 ⟨⟨A1,k1,c1⟩,⟨A2,k2,c2⟩,rfl,hq1,hr1,hx4⟩
   go_wp2_with fail
   refine zf (zcn (a:=Y) (b:=Nat.gcd X Y) HG0.out L2.out) ?_
   rintro e w5 ⟨⟨A3,k3,c3⟩,⟨A4,k4,c4⟩,rfl,hq2,hr2,hx5⟩
   have hq1l:=hq1.list
   have hq2l:=hq2.list
   have hw4:Nxt w w5:=zaa
   obtain ⟨p,hp⟩:∃ p,X / Nat.gcd X Y=p:=⟨_,rfl⟩
   obtain ⟨q,hq⟩:∃ q,Y / Nat.gcd X Y=q:=⟨_,rfl⟩
   rw [hp] at hq1 hq1l
   rw [hq] at hq2 hq2l
   have HTX2:=HTX.out
   rw [hp,hq] at HTX2
   have HTQ:=zc HTX2
   have HP1:Hid (wl p <= a):=zc (by rw [<- hp]; exact HQ1.out)
   have HP2:Hid (wl q <= b):=zc (by rw [<- hq]; exact HQ2.out)
   have HQN:Hid (q ≠ 0):=zc (by rw [<- hq]; exact HQ0.out)
   have hk3:=hq2.len
   have HK3:=zc hk3
   clear HTX2 hp hq hk3
   go_wp2_with fail
   refine zf (zaP (ds:=digs p)) ?_
   rintro e w6 ⟨⟨b6,⟨A6,k6,c6⟩⟩,rfl,hz6,hx6⟩
   rw [zai] at hz6
   go_wp2_with fail
   refine zf (zd9 (z:=sgn s1 p) (by rw [zaq]; exact zo (dl_wl HP1.out) (by have:=HA.out; omega))) ?_
   rintro e w7 ⟨rfl,hx7⟩
   have hlp:(itoaZ (sgn s1 p)).length <= 20 * a+21:=zeV (by rw [zaq]; exact HP1.out)
   have hlq:(itoaZ (q:Int)).length <= 20 * b+21:=zeV (z:=(q:Int)) HP2.out
   have hcat1:¬ (9223372036854775807 < (itoaZ (sgn s1 p)).length+1):=by have:=HA.out; omega
   have hcat2:¬ (9223372036854775807 < (itoaZ (sgn s1 p)).length+1+(itoaZ (q:Int)).length):=by have:=HA.out; have:=HB.out; omega
   have hcat3:¬ (9223372036854775807 < (itoaZ (sgn s1 p)).length+(1+(itoaZ (q:Int)).length)):=by have:=HA.out; have:=HB.out; omega
   clear hlp hlq
   have hq2m:DigL w7 (.slice A3 k3 c3) (digs q):=za
   by_cases hone:q=1
   ·have hk1 : k3 = 1 := by rw [HK3.out]; exact zdX hone
    subst hk1
    obtain ⟨ad,rfl,hc⟩:=zb4 (show DigIs w7 (.slice A3 1 c3) q from za) rfl
    rw [hone] at hc
    have hc2:w7.cell? ad=some (.int .i64 ((1:Nat):Int)):=by rw [show ad.add 0=ad by unfold Addr.add; simp] at hc; exact hc
    have HO:=zc hone
    clear hone
    go_wp2_with fail
    go_ret
    refine ⟨?_,zaa⟩
    rw [HTQ.out,if_pos HO.out,List.append_nil]; rfl
   ·have HO := zc hone
    have HTI:=zc (show T=itoaZ (sgn s1 p) ++ 47 :: itoaZ (q:Int) by rw [HTQ.out,if_neg HO.out])
    by_cases hk1:k3=1
    ·subst hk1
     obtain ⟨ad,rfl,hc⟩:=zb4 (show DigIs w7 (.slice A3 1 c3) q from za) rfl
     have hc2:w7.cell? ad=some (.int .i64 (q:Int)):=by rw [show ad.add 0=ad by unfold Addr.add; simp] at hc; exact hc
     have hq1':((q:Int) == 1)=false:=by rw [beq_eq_false_iff_ne]; omega
     clear hone
     go_wp2_with fail
     refine zf (zaP (ds:=digs q)) ?_
     rintro e w8 ⟨⟨b8,⟨A8,k8,c8⟩⟩,rfl,hz8,hx8⟩
     rw [zai,show sgn false q=(q:Int) from rfl] at hz8
     go_wp2_with fail
     refine zf (zd9 (z:=(q:Int)) (zo (dl_wl HP2.out) (by have:=HB.out; omega))) ?_
     rintro e w9 ⟨rfl,hx9⟩
     go_wp2_with fail
     go_ret
     refine ⟨?_,zaa⟩
     rw [HTI.out,<- cat3]; rfl
    ·have hk1' : ((k3 : Int) == 1) = false := by rw [beq_eq_false_iff_ne]; omega
     clear hone
     go_wp2_with fail
     refine zf (zaP (ds:=digs q)) ?_
     rintro e w8 ⟨⟨b8,⟨A8,k8,c8⟩⟩,rfl,hz8,hx8⟩
     rw [zai,show sgn false q=(q:Int) from rfl] at hz8
     go_wp2_with fail
     refine zf (zd9 (z:=(q:Int)) (zo (dl_wl HP2.out) (by have:=HB.out; omega))) ?_
     rintro e w9 ⟨rfl,hx9⟩
     go_wp2_with fail
     go_ret
     refine ⟨?_,zaa⟩
     rw [HTI.out,<- cat3]; rfl
class zjw (s:ByteArray) (x:outParam Int):Prop where
 out:∀ w:World,Calls Tryz.prog 175 #[.string s] w (ZRet w x)
theorem parse_o {s:ByteArray} {x:Int} {w:World} [h:zjw s x]:Calls Tryz.prog 175 #[.string s] w (ZRet w x):=h.out w
theorem zej {s:ByteArray} {b t:Bool} {N D:List UInt8} {w:World} (hs:s.data.toList=fracL b N D t) (hN:Digs N) (hD:t=true -> Digs D) (l1:N.length <= 2 ^ 20) (l2:D.length <= 2 ^ 20):
  Calls Tryz.prog 77 #[.string s] w (fun e w'=>∃ n d:IV,e = .returned (.tuple #[n.v,d.v])/\ZIs w' n.v (sgn b (zac N))/\ZIs w' d.v (if t then (zac D:Int) else 1)/\Nxt w w'):=by
 have hsz:s.size=(fracL b N D t).length:=by rw [<- hs]; simp
 obtain ⟨k,hk⟩:∃ k,(fracN b N).length=k:=⟨_,rfl⟩
 have hkl:k <= N.length+1:=by rw [<- hk,zfO]; split <;> omega
 have hsl:zas s.data.toList=k:=by rw [hs,zgL hN,hk]
 rw [zeX,hk] at hsz
 have HSZ40:Hid (s.size < 2 ^ 40):=zc (by rw [hsz]; split <;> omega)
 have HSL:=zc hsl
 have HSC:Hid (∀ w,Calls _ _ _ w _):=zc (fun w=>zff (s:=s) (w:=w) (by have:=HSZ40.out; omega))
 rw [hsl] at HSC
 obtain ⟨x,hx⟩:∃ x,sgn b (zac N)=x:=⟨_,rfl⟩
 rw [hx]
 cases t
 ·simp only [Bool.false_eq_true, if_false, Nat.add_zero] at hsz ⊢
  have hP:Hid (∀ w,Calls _ _ _ w _):=zc (fun w=>ziY (s:=s) (b:=b) (N:=N) (w:=w) (by rw [hs]; unfold fracL fracN; simp) hN l1)
  rw [hx] at hP
  have he:((k:Int) == (s.size:Int))=true:=by rw [hsz]; simp
  clear hs hN hD l1 l2 hk hkl hsl hx
  go_enter Tryz.func77,Tryz.ntmps77
  go_wp2_with fail
  refine zf (HSC.out _) ?_
  rintro e w1 ⟨rfl,hd1⟩
  have hx1:Nxt _ w1:=⟨hd1.below _⟩
  clear hd1
  go_wp2_with fail
  refine zf (hP.out _) ?_
  rintro e w2 ⟨⟨b2,⟨A2,k2,c2⟩⟩,rfl,hz2,hx2⟩
  go_wp2_with fail
  refine zf (zmI (z:=1) (by decide) (by decide)) ?_
  rintro e w3 ⟨⟨b3,⟨A3,k3,c3⟩⟩,rfl,hz3,hx3⟩
  go_wp2_with fail
  simp [bodyPost,results,Tryz.results77,go_sem]
  exact ⟨⟨b2,⟨A2,k2,c2⟩⟩,⟨b3,⟨A3,k3,c3⟩⟩,(by repeat' (first | apply And.intro | rfl)),za,za,zaa⟩
 ·simp only [if_true] at hsz ⊢
  obtain ⟨y,hy⟩:∃ y:Int,(zac D:Int)=y:=⟨_,rfl⟩
  rw [hy]
  have hP1:Hid (∀ w,Calls _ _ _ w _):=zc (fun w=>ziY (s:=s.extract 0 k) (b:=b) (N:=N) (w:=w) (by rw [zdg,hs,<- hk]; exact zlZ) hN l1)
  have hP2:Hid (∀ w,Calls _ _ _ w _):=zc (fun w=>ziY (s:=s.extract (k+1) s.size) (b:=false) (N:=D) (w:=w) (by rw [za9,hs,<- hk]; exact zl0) (hD rfl) l2)
  obtain ⟨sN,hsN⟩:∃ sN,s.extract 0 k=sN:=⟨_,rfl⟩
  obtain ⟨sD,hsD⟩:∃ sD,s.extract (k+1) s.size=sD:=⟨_,rfl⟩
  rw [hx,hsN] at hP1
  rw [show sgn false (zac D)=(zac D:Int) from rfl,hy,hsD] at hP2
  have hP1:zjw sN x:=⟨hP1.out⟩
  have hP2:zjw sD y:=⟨hP2.out⟩
  obtain ⟨m,hm⟩:∃ m,k+1=m:=⟨_,rfl⟩
  rw [hm] at hsD
  have he:((k:Int) == (s.size:Int))=false:=by rw [hsz,beq_eq_false_iff_ne]; omega
  have hadd:IntKind.i64.wrap ((k:Int)+1)=(m:Int):=by have:=HSZ40.out; rw [zx]; omega
  have i1:(k:Int) <= (s.size:Int):=by omega
  have i2:(m:Int) <= (s.size:Int):=by omega
  have i3:(0:Int) <= (m:Int):=by omega
  clear hs hN hD l1 l2 hk hkl hsl hx hy hsz hm
  go_enter Tryz.func77,Tryz.ntmps77
  go_wp2_with fail
  refine zf (HSC.out _) ?_
  rintro e w1 ⟨rfl,hd1⟩
  have hx1:Nxt _ w1:=⟨hd1.below _⟩
  have b0:Blk w1 w.heap.size 112 #[.bool false,.slice none 0 0]:=za
  have b1:Blk w1 (w.heap.size+1) 112 #[.bool false,.slice none 0 0]:=za
  clear hd1
  go_wp2_with fail
  (refine Code.nameW ?_; intro W hW; go_region_held3 (fun w'=>ButO W [w.heap.size,w.heap.size+1] w') (exact zab) ((go_at_call 175; refine zf (parse_o) ?_; rintro e w2 ⟨⟨b2,⟨A2,k2,c2⟩⟩,rfl,hz2,hx2⟩)))
  all_goals go_wp2_with fail
  all_goals simp [bodyPost,results,Tryz.results77,go_sem]
  all_goals exact ⟨⟨_,⟨_,_,_⟩⟩,⟨_,⟨_,_,_⟩⟩,⟨⟨rfl,rfl,rfl,rfl⟩,rfl,rfl,rfl,rfl⟩,za,za,zaa⟩
theorem zbW {q:Rat} {a:Nat} {w:World} [d:Sz q a] (ha:a <= 2 ^ 15):
  Calls Tryz.prog 77 #[str (zad q)] w (fun e w'=>∃ n d:IV,e = .returned (.tuple #[n.v,d.v])/\ZIs w' n.v q.num/\ZIs w' d.v (q.den:Int)/\Nxt w w'):=by
 have h1:=zis (n:=q.num.natAbs) (k:=a+1) (Nat.le_succ_of_le d.num) (by omega)
 have h2:=zis (n:=q.den) (k:=a+1) (Nat.le_succ_of_le d.den) (by omega)
 have h:=zej (s:=⟨(zad q).toArray⟩) (b:=decide (q.num < 0)) (t:=decide (q.den ≠ 1)) (N:=Lib.decDigits q.num.natAbs) (D:=Lib.decDigits q.den) (w:=w) (by rw [<- zbk]) (zdi _) (fun _=>zdi _) (by omega) (by omega)
 rw [zcC,zcC,zcj] at h
 refine zf h ?_
 rintro e w' ⟨n,d,he,hn,hd,hx⟩
 refine ⟨n,d,he,hn,?_,hx⟩
 by_cases h1:q.den=1
 ·rw [h1] at hd ⊢; simpa using hd
 ·simpa [h1] using hd
class ValTo (s:ByteArray) (n:outParam Nat):Prop where
 out:∀ w:World,Calls Tryz.prog 204 #[.string s] w (fun e w'=>e = .returned (.int .i64 (n:Int))/\Drew w w')
theorem zd8 {s:ByteArray} {n:Nat} {w:World} [h:ValTo s n]:Calls Tryz.prog 204 #[.string s] w (fun e w'=>e = .returned (.int .i64 (n:Int))/\Drew w w'):=h.out w
theorem zjy {s:ByteArray} {N:List UInt8} (h:s.data.toList=N) (hd:Digs N) (hl:N.length <= 9):ValTo s (zac N)/\zac N < 10 ^ 9:=by
 subst h
 have hs:s.size=s.data.toList.length:=by simp
 refine ⟨⟨fun w=>zds (by omega) hd⟩,Nat.lt_of_lt_of_le (zbc hd) (Nat.pow_le_pow_right (by decide) hl)⟩
theorem zcA {s:ByteArray} {c:UInt8} {l:List UInt8} (h:s.data.toList=c :: l):∃ h0:0 < s.size,s[0]=c:=by
 have hs:s.size=s.data.toList.length:=by simp
 have h0:0 < s.size:=by rw [hs,h]; simp
 refine ⟨h0,?_⟩
 have h2:s.data[0]?=some s[0]:=by rw [Array.getElem?_eq_getElem h0]; rfl
 have h3:s.data.toList[0]?=some s[0]:=by simpa using h2
 rw [h] at h3
 exact (zl h3).symm
def QkRet (w:World) (n d:Int) (e:Ending) (w':World):Prop:=
 (e = .returned (.tuple #[.int .i64 0,.int .i64 0,.bool false]) ∨ (e = .returned (.tuple #[.int .i64 n,.int .i64 d,.bool true])/\n.natAbs < 10 ^ 9/\d.natAbs < 10 ^ 9))/\Nxt w w'
theorem zkp {s:ByteArray} {b t:Bool} {N D:List UInt8} {w:World} (hs:s.data.toList=fracL b N D t) (hN:Digs N) (hD:t=true -> Digs D) (hN0:N ≠ []):
  Calls Tryz.prog 135 #[.string s] w (QkRet w (sgn b (zac N)) (if t then (zac D:Int) else 1)):=by
 have hsz:s.size=(fracL b N D t).length:=by rw [<- hs]; simp
 by_cases h20:20 < s.size
 ·obtain ⟨x, hx⟩ : ∃ x, sgn b (zac N) = x := ⟨_, rfl⟩
  obtain ⟨y,hy⟩:∃ y:Int,(if t then (zac D:Int) else 1)=y:=⟨_,rfl⟩
  rw [hx,hy]
  have h20':decide ((20:Int) < (s.size:Int))=true:=by simp; omega
  have h20'':(20:Int) < (s.size:Int):=by omega
  clear hs hN hD hN0 hsz hx hy
  go_enter Tryz.func135,Tryz.ntmps135
  go_wp2_with fail
  simp [bodyPost,results,Tryz.results135,go_sem]
  exact ⟨.inl rfl,zaa⟩
 ·have h20' : decide ((20 : Int) < (s.size : Int)) = false := by simp; omega
  have h20'':¬ (20:Int) < (s.size:Int):=by omega
  obtain ⟨r,hr⟩:∃ r:ByteArray,r=(if b then s.extract 1 s.size else s):=⟨_,rfl⟩
  have hrl:r.data.toList=N ++ (if t then 47 :: D else []):=by
   rw [hr]
   cases b
   ·simpa [fracL] using hs
   ·simp only [if_true]
    rw [za9,hs]; rfl
  have hrs:r.size=N.length+(if t then D.length+1 else 0):=by
   have:r.size=r.data.toList.length:=by simp
   rw [this,hrl,List.length_append]
   cases t <;> rfl
  have hn1:1 <= N.length:=by
   cases N with
   | nil=>exact absurd rfl hN0
   | cons c l=>simp
  have hsle:s.size <= 20:=by omega
  have hrle:r.size <= 20:=by
   rw [hr]
   split
   ·rw [ByteArray.size_extract]; omega
   ·exact hsle
  have hsl:zas r.data.toList=N.length:=by rw [hrl,zfg (zjj hN),zeu,Nat.add_zero]
  obtain ⟨k,hk⟩:∃ k,N.length=k:=⟨_,rfl⟩
  obtain ⟨k1,hk1⟩:∃ k1,k+1=k1:=⟨_,rfl⟩
  obtain ⟨m,hm⟩:∃ m,r.size - k=m:=⟨_,rfl⟩
  have HSC:Hid (∀ w,Calls _ _ _ w _):=zc (fun w=>zff (s:=r) (w:=w) (by omega))
  rw [hsl,hk] at HSC
  have HRS:Hid (r.size=k+(if t then D.length+1 else 0)):=zc (by rw [hrs,hk])
  obtain ⟨sN,hsN⟩:∃ sN,r.extract 0 k=sN:=⟨_,rfl⟩
  obtain ⟨sD,hsD⟩:∃ sD,r.extract k1 r.size=sD:=⟨_,rfl⟩
  have hnl:sN.data.toList=N:=by rw [<- hsN,zdg,hrl,<- hk,List.take_left]
  have HV1:Hid (¬ 9 < k -> ValTo sN (zac N)/\zac N < 10 ^ 9):=zc (fun h=>zjy hnl hN (by omega))
  have HV2:Hid (t=true -> ¬ 10 < m -> ValTo sD (zac D)/\zac D < 10 ^ 9):=zc (fun ht h=>by
   subst ht
   simp only [if_true] at hrs hrl
   refine zjy ?_ (hD rfl) (by omega)
   rw [<- hsD,za9,hrl,<- hk1,<- hk,<- List.drop_drop,List.drop_left]; rfl)
  obtain ⟨n,hn⟩:∃ n,zac N=n:=⟨_,rfl⟩
  obtain ⟨d,hd⟩:∃ d,zac D=d:=⟨_,rfl⟩
  rw [hn] at HV1
  rw [hd] at HV2
  rw [hn,hd]
  obtain ⟨x,hx⟩:∃ x,sgn b n=x:=⟨_,rfl⟩
  obtain ⟨y,hy⟩:∃ y:Int,(if t then (d:Int) else 1)=y:=⟨_,rfl⟩
  rw [hx,hy]
  have HX:=zc hx; have HY:=zc hy; have HK1:=zc hk1
  have i1:(k:Int) <= (r.size:Int):=by rw [hrs,hk]; omega
  have i2:(0:Int) <= (k1:Int):=by omega
  have hadd:IntKind.i64.wrap ((k:Int)+1)=(k1:Int):=by rw [zx]; omega
  have hsub:IntKind.i64.wrap ((r.size:Int) - (k:Int))=(m:Int):=by rw [zx]; omega
  cases b
  ·simp only [Bool.false_eq_true, if_false] at hr
   obtain ⟨c,l,hcl⟩:∃ c l,s.data.toList=c :: l:=by
    rw [hs]
    cases N with
    | nil=>exact absurd rfl hN0
    | cons c l=>exact ⟨c,_,rfl⟩
   have hcd:48 <= c.toNat:=by
    have:c ∈ N:=by
     rw [hs] at hcl
     cases N with
     | nil=>exact absurd rfl hN0
     | cons e l2=>
      have:e=c:=by
       have h:=congrArg (fun l=>l[0]?) hcl
       simpa [fracL] using h
      rw [this]; exact List.mem_cons_self
    exact (hN c this).1
   obtain ⟨h0,hc⟩:=zcA hcl
   have hgt:decide ((0:Int) < (s.size:Int))=true:=by simp; omega
   have h0':(0:Int) < (s.size:Int):=by omega
   have hne:((c.toNat:Int) == 45)=false:=by rw [beq_eq_false_iff_ne]; omega
   subst hr
   clear hs hN hD hN0 hsz hrl hrs hn1 hsle hrle hsl hk hk1 hm hnl hn hd hx hy hcl hcd
   go_enter Tryz.func135,Tryz.ntmps135
   go_wp2_with fail
   refine zf (HSC.out _) ?_
   rintro e w1 ⟨rfl,hd1⟩
   have hx1:Nxt w w1:=⟨hd1.below _⟩
   clear hd1
   by_cases h9:9 < k
   ·have h9' : decide ((9 : Int) < (k : Int)) = true := by simp; omega
    have h9'':(9:Int) < (k:Int):=by omega
    go_wp2_with fail
    simp [bodyPost,results,Tryz.results135,go_sem]
    exact ⟨.inl rfl,zaa⟩
   ·have h9' : decide ((9 : Int) < (k : Int)) = false := by simp; omega
    have h9'':¬ (9:Int) < (k:Int):=by omega
    have HK9:=zc h9
    by_cases h10:10 < m
    ·have h10' : decide ((10 : Int) < (m : Int)) = true := by simp; omega
     have h10'':(10:Int) < (m:Int):=by omega
     clear h9
     go_wp2_with fail
     simp [bodyPost,results,Tryz.results135,go_sem]
     exact ⟨.inl rfl,zaa⟩
    ·have h10' : decide ((10 : Int) < (m : Int)) = false := by simp; omega
     have h10'':¬ (10:Int) < (m:Int):=by omega
     have HM10:=zc h10
     clear h9 h10
     obtain ⟨vt,vb⟩:=HV1.out HK9.out
     have hnegn:IntKind.i64.wrap (-(n:Int)) = -(n:Int):=by rw [zx]; omega
     cases t
     ·have hkr : decide ((k : Int) < (r.size : Int)) = false := by have := HRS.out; simp at this; simp; omega
      have hkr':¬ (k:Int) < (r.size:Int):=by have:=HRS.out; simp at this; omega
      have HVB:=zc vb
      clear vb
      go_wp2_with fail
      refine zf (zd8) ?_
      rintro e w2 ⟨rfl,hd2⟩
      have hx2:Nxt w1 w2:=⟨hd2.below _⟩
      clear hd2
      go_wp2_with fail
      simp [bodyPost,results,Tryz.results135,go_sem]
      exact ⟨.inr ⟨by first | (rw [<- HY.out,<- HX.out]; rfl) | (rw [<- HY.out,<- HX.out]; simp [sgn]; done),by rw [<- HX.out,zaq]; exact HVB.out,by rw [<- HY.out]; simp⟩,zaa⟩
     ·have hkr : decide ((k : Int) < (r.size : Int)) = true := by have := HRS.out; simp at this; simp; omega
      have hkr':(k:Int) < (r.size:Int):=by have:=HRS.out; simp at this; omega
      have hk1s:(k1:Int) <= (r.size:Int):=by have:=HRS.out; have:=HK1.out; simp at *; omega
      obtain ⟨ut,ub⟩:=HV2.out rfl HM10.out
      have HVB:=zc vb
      have HUB:=zc ub
      clear vb ub
      go_wp2_with fail
      refine zf (zd8) ?_
      rintro e w2 ⟨rfl,hd2⟩
      have hx2:Nxt w1 w2:=⟨hd2.below _⟩
      clear hd2
      go_wp2_with fail
      refine zf (zd8) ?_
      rintro e w3 ⟨rfl,hd3⟩
      have hx3:Nxt w2 w3:=⟨hd3.below _⟩
      clear hd3
      go_wp2_with fail
      simp [bodyPost,results,Tryz.results135,go_sem]
      exact ⟨.inr ⟨by first | (rw [<- HY.out,<- HX.out]; rfl) | (rw [<- HY.out,<- HX.out]; simp [sgn]; done),by rw [<- HX.out,zaq]; exact HVB.out,by rw [<- HY.out]; exact HUB.out⟩,zaa⟩
  ·simp only [if_true] at hr
   obtain ⟨h0,hc⟩:=zcA (s:=s) (c:=45) (l:=N ++ (if t then 47 :: D else [])) (by rw [hs]; rfl)
   have hgt:decide ((0:Int) < (s.size:Int))=true:=by simp; omega
   have h0':(0:Int) < (s.size:Int):=by omega
   have heq:(((45:UInt8).toNat:Int) == 45)=true:=rfl
   have hb1:(1:Int) <= (s.size:Int):=by omega
   have hr':=hr.symm
   clear hs hN hD hN0 hsz hrl hrs hn1 hsle hrle hsl hk hk1 hm hnl hn hd hx hy hr
   go_enter Tryz.func135,Tryz.ntmps135
   go_wp2_with fail
   refine zf (HSC.out _) ?_
   rintro e w1 ⟨rfl,hd1⟩
   have hx1:Nxt w w1:=⟨hd1.below _⟩
   clear hd1
   by_cases h9:9 < k
   ·have h9' : decide ((9 : Int) < (k : Int)) = true := by simp; omega
    have h9'':(9:Int) < (k:Int):=by omega
    go_wp2_with fail
    simp [bodyPost,results,Tryz.results135,go_sem]
    exact ⟨.inl rfl,zaa⟩
   ·have h9' : decide ((9 : Int) < (k : Int)) = false := by simp; omega
    have h9'':¬ (9:Int) < (k:Int):=by omega
    have HK9:=zc h9
    by_cases h10:10 < m
    ·have h10' : decide ((10 : Int) < (m : Int)) = true := by simp; omega
     have h10'':(10:Int) < (m:Int):=by omega
     clear h9
     go_wp2_with fail
     simp [bodyPost,results,Tryz.results135,go_sem]
     exact ⟨.inl rfl,zaa⟩
    ·have h10' : decide ((10 : Int) < (m : Int)) = false := by simp; omega
     have h10'':¬ (10:Int) < (m:Int):=by omega
     have HM10:=zc h10
     clear h9 h10
     obtain ⟨vt,vb⟩:=HV1.out HK9.out
     have hnegn:IntKind.i64.wrap (-(n:Int)) = -(n:Int):=by rw [zx]; omega
     cases t
     ·have hkr : decide ((k : Int) < (r.size : Int)) = false := by have := HRS.out; simp at this; simp; omega
      have hkr':¬ (k:Int) < (r.size:Int):=by have:=HRS.out; simp at this; omega
      have HVB:=zc vb
      clear vb
      go_wp2_with fail
      refine zf (zd8) ?_
      rintro e w2 ⟨rfl,hd2⟩
      have hx2:Nxt w1 w2:=⟨hd2.below _⟩
      clear hd2
      go_wp2_with fail
      simp [bodyPost,results,Tryz.results135,go_sem]
      exact ⟨.inr ⟨by first | (rw [<- HY.out,<- HX.out]; rfl) | (rw [<- HY.out,<- HX.out]; simp [sgn]; done),by rw [<- HX.out,zaq]; exact HVB.out,by rw [<- HY.out]; simp⟩,zaa⟩
     ·have hkr : decide ((k : Int) < (r.size : Int)) = true := by have := HRS.out; simp at this; simp; omega
      have hkr':(k:Int) < (r.size:Int):=by have:=HRS.out; simp at this; omega
      have hk1s:(k1:Int) <= (r.size:Int):=by have:=HRS.out; have:=HK1.out; simp at *; omega
      obtain ⟨ut,ub⟩:=HV2.out rfl HM10.out
      have HVB:=zc vb
      have HUB:=zc ub
      clear vb ub
      go_wp2_with fail
      refine zf (zd8) ?_
      rintro e w2 ⟨rfl,hd2⟩
      have hx2:Nxt w1 w2:=⟨hd2.below _⟩
      clear hd2
      go_wp2_with fail
      refine zf (zd8) ?_
      rintro e w3 ⟨rfl,hd3⟩
      have hx3:Nxt w2 w3:=⟨hd3.below _⟩
      clear hd3
      go_wp2_with fail
      simp [bodyPost,results,Tryz.results135,go_sem]
      exact ⟨.inr ⟨by first | (rw [<- HY.out,<- HX.out]; rfl) | (rw [<- HY.out,<- HX.out]; simp [sgn]; done),by rw [<- HX.out,zaq]; exact HVB.out,by rw [<- HY.out]; exact HUB.out⟩,zaa⟩
def allD (l:List UInt8):Bool:=l.all fun b=>decide (48 <= b.toNat) && decide (b.toNat <= 57)
theorem zkd {l:List UInt8}:allD l=true ↔ ∀ (i:Nat) (c:UInt8),l[i]?=some c -> 48 <= c.toNat/\c.toNat <= 57:=by
 unfold allD
 rw [List.all_eq_true]
 constructor
 ·intro h i c hc
  have:=h c (zk hc)
  simpa using this
 ·intro h c hc
  obtain ⟨i,hi⟩:=List.getElem?_of_mem hc
  have:=h i c hi
  simpa using this
theorem zke {s:ByteArray} {w:World} (hs:s.size < 2 ^ 63):Calls Tryz.prog 174 #[.string s] w (fun e w'=>e = .returned (.bool (allD s.data.toList))/\Drew w w'):=by
 have HS:=zc hs
 clear hs
 go_enter Tryz.func174,Tryz.ntmps174
 go_wp2_with fail
 go_loopg [3] s.size (fun gk s3 wr=>∃ i:Nat,gk=s.size - i/\i <= s.size/\s3 = .int .i64 (i:Int)/\(∀ j x,j < i -> s.data.toList[j]?=some x -> 48 <= x.toNat/\x.toNat <= 57)/\Drew w wr)
 case atStart=>exact ⟨0,rfl,Nat.zero_le _,rfl,fun j x h=>absurd h (by omega),Drew.refl _⟩
 case round=>
  obtain ⟨i,rfl,hi,rfl,hok,hd⟩:=hrel
  have HOK:=zc hok; have HD:=zc hd
  clear hok hd
  by_cases hin:i < s.size
  ·have hlt : decide ((i : Int) < (s.size : Int)) = true := by simp; omega
   have hlt':(i:Int) < (s.size:Int):=by omega
   have hadd:IntKind.i64.wrap ((i:Int)+1)=((i+1:Nat):Int):=by have:=HS.out; rw [zx]; omega
   obtain ⟨c,hc⟩:∃ c,s[i]=c:=⟨_,rfl⟩
   have hci:s.data.toList[i]?=some c:=by
    have h2:s.data[i]?=some s[i]:=by rw [Array.getElem?_eq_getElem hin]; rfl
    rw [hc] at h2; simpa using h2
   have HCI:=zc hci; have HIN:=zc hin
   obtain ⟨x,hx⟩:∃ x,c.toNat=x:=⟨_,rfl⟩
   have HX:=zc hx
   clear hci
   have hno:(x < 48 ∨ 57 < x) -> allD s.data.toList=false:=fun h=>by
    cases hb:allD s.data.toList
    ·rfl
    ·have := zkd.1 hb i c HCI.out
     omega
   have HNO:=zc hno
   clear hno
   by_cases h1:x < 48
   ·have h1' : decide ((x : Int) < 48) = true := by simp; omega
    have h1'':(x:Int) < 48:=by omega
    go_wp2_with fail
    go_ret
    exact ⟨by rw [HNO.out (.inl h1)]; rfl,HD.out⟩
   ·have h1' : decide ((x : Int) < 48) = false := by simp; omega
    have h1'':¬ (x:Int) < 48:=by omega
    by_cases h2:57 < x
    ·have h2' : decide ((57 : Int) < (x : Int)) = true := by simp; omega
     have h2'':(57:Int) < (x:Int):=by omega
     go_wp2_with fail
     go_ret
     exact ⟨by rw [HNO.out (.inr h2)]; rfl,HD.out⟩
    ·have h2' : decide ((57 : Int) < (x : Int)) = false := by simp; omega
     have h2'':¬ (57:Int) < (x:Int):=by omega
     go_wp2_with fail
     go_roundg (s.size - (i+1))
     case rel=>exact ⟨i+1,rfl,HIN.out,rfl,fun j y hj hy=>by
      rcases Nat.lt_or_ge j i with h | h
      ·exact HOK.out j y h hy
      ·obtain rfl : j = i := by omega
       rw [HCI.out] at hy
       obtain rfl:=zl hy
       rw [HX.out]; omega,HD.out⟩
     case measure=>have:=HIN.out; omega
  ·have hlt : decide ((i : Int) < (s.size : Int)) = false := by simp; omega
   obtain rfl:i=s.size:=by omega
   go_wp2_with fail
   go_ret
   refine ⟨?_,HD.out⟩
   rw [zkd.2 (fun j x hx=>HOK.out j x (by
    have:=(zh.1 hx).1
    simpa using this) hx)]
   rfl
theorem ziu {l:List UInt8} (h:l ≠ []) (h2:¬ (l[0]?=some 48/\1 < l.length)):decL l=allD l:=by
 match l,h,h2 with
 | c :: t,_,h=>
  have hl:(!(c == 48 && !t.isEmpty))=true:=by
   cases t with
   | nil=>simp
   | cons d t=>simp at h ⊢; exact h
  rw [show decL (c :: t)=(!(c == 48 && !t.isEmpty) && allD (c :: t)) from rfl,hl,Bool.true_and]
theorem zhg {s:ByteArray} {w:World} (hs:s.size < 2 ^ 63):Calls Tryz.prog 76 #[.string s] w (fun e w'=>e = .returned (.bool (decL s.data.toList))/\Drew w w'):=by
 have HS:=zc hs
 clear hs
 have hsl:s.data.toList.length=s.size:=by simp
 by_cases hemp:s.size=0
 ·have hl : s.data.toList = [] := List.eq_nil_of_length_eq_zero (by omega)
  have hr:decL s.data.toList=false:=by rw [hl]; rfl
  have h0:((s.size:Int) == 0)=true:=by rw [hemp]; rfl
  have HR:=zc hr
  clear hsl hl hr hemp
  go_enter Tryz.func76,Tryz.ntmps76
  go_wp2_with fail
  go_ret
  exact ⟨by rw [HR.out]; rfl,by first | exact Drew.refl _ | assumption⟩
 ·have h0 : ((s.size : Int) == 0) = false := by rw [beq_eq_false_iff_ne]; omega
  have h0':0 < s.size:=by omega
  have h0'':(0:Int) < (s.size:Int):=by omega
  obtain ⟨c,hc⟩:∃ c,s[0]=c:=⟨_,rfl⟩
  have hci:s.data.toList[0]?=some c:=by
   have h2:s.data[0]?=some s[0]:=by rw [Array.getElem?_eq_getElem h0']; rfl
   rw [hc] at h2; simpa using h2
  have hne:s.data.toList ≠ []:=by intro h; rw [h] at hci; cases hci
  by_cases h1:1 < s.size
  ·have h1' : decide ((1 : Int) < (s.size : Int)) = true := by simp; omega
   have h1'':(1:Int) < (s.size:Int):=by omega
   by_cases h48:c=48
   ·have heq : ((c.toNat : Int) == 48) = true := by rw [h48]; rfl
    have HR:=zc (show decL s.data.toList=false from zd0 (by rw [hci,h48]) (by rw [hsl]; exact h1))
    clear hsl hci hne h48
    go_enter Tryz.func76,Tryz.ntmps76
    go_wp2_with fail
    go_ret
    exact ⟨by rw [HR.out]; rfl,by first | exact Drew.refl _ | assumption⟩
   ·have heq:((c.toNat:Int) == 48)=false:=by
     have h9:c.toNat ≠ 48:=fun h=>h48 (UInt8.toNat_inj.1 h)
     simp
     first | omega | exact h48
    have HR:=zc (show decL s.data.toList=allD s.data.toList from ziu hne (by rw [hci]; simpa using fun h=>absurd h h48))
    clear hsl hci hne h48
    go_enter Tryz.func76,Tryz.ntmps76
    go_wp2_with fail
    refine zf (zke HS.out) ?_
    rintro e w1 ⟨rfl,hd⟩
    go_wp2_with fail
    go_ret
    exact ⟨by rw [HR.out]; rfl,by first | exact hd | assumption⟩
  ·have h1' : decide ((1 : Int) < (s.size : Int)) = false := by simp; omega
   have h1'':¬ (1:Int) < (s.size:Int):=by omega
   have HR:=zc (show decL s.data.toList=allD s.data.toList from ziu hne (by rw [hsl]; exact fun h=>h1 h.2))
   clear hsl hci hne
   go_enter Tryz.func76,Tryz.ntmps76
   go_wp2_with fail
   refine zf (zke HS.out) ?_
   rintro e w1 ⟨rfl,hd⟩
   go_wp2_with fail
   go_ret
   exact ⟨by rw [HR.out]; rfl,by first | exact hd | assumption⟩
theorem zbo {n:Nat} {w:World} (hn:n < 2 ^ 62):Calls Tryz.prog 206 #[.int .i64 (n:Int),.int .i64 1] w (fun e w'=>e = .returned (str (Lib.decDigits n))/\Drew w w'):=by
 have h1:=Lib.nDigits_pos n
 have h2:=Lib.lt_pow_nDigits n
 have h3:Lib.nDigits n <= 1 ∨ 10 ^ (Lib.nDigits n - 1) <= n:=by
  rcases Nat.eq_zero_or_pos n with h | h
  ·left; rw [h,Lib.nDigits_small (by decide)]; decide
  ·exact zgE h
 have:=decimal_c (n:=n) (least:=1) (K:=Lib.nDigits n) (w:=w) hn (by omega) h1 h2 h3
 rw [zhi h2 (by rcases h3 with h | h; exact .inl (by omega); exact .inr h) h1] at this
 exact this
theorem zjI {s:Bool} {N G:Nat}:Int.tdiv (sgn s N) (G:Int)=sgn s (N / G):=by
 cases s
 ·show Int.tdiv (N : Int) (G : Int) = ((N / G : Nat) : Int)
  rw [Int.tdiv_eq_ediv_of_nonneg (by omega)]; rfl
 ·show Int.tdiv (-(N : Int)) (G : Int) = -((N / G : Nat) : Int)
  rw [Int.neg_tdiv,Int.tdiv_eq_ediv_of_nonneg (by omega)]; rfl
theorem of9_c {n d:Int} {w:World} (h1:n.natAbs <= 4000000000000000000) (h2:d.natAbs <= 4000000000000000000) (hd:d ≠ 0):
  Calls Tryz.prog 136 #[.int .i64 n,.int .i64 d] w (PRet w (str (zad (Rat.divInt n d)))):=by
 obtain ⟨T,hT⟩:∃ T,zad (Rat.divInt n d)=T:=⟨_,rfl⟩
 rw [hT]
 obtain ⟨N,hN⟩:∃ N,n.natAbs=N:=⟨_,rfl⟩
 obtain ⟨D,hD⟩:∃ D,d.natAbs=D:=⟨_,rfl⟩
 obtain ⟨G,hG⟩:∃ G,Nat.gcd N D=G:=⟨_,rfl⟩
 obtain ⟨N',hN'⟩:∃ N',N / G=N':=⟨_,rfl⟩
 obtain ⟨D',hD'⟩:∃ D',D / G=D':=⟨_,rfl⟩
 have hD0:D ≠ 0:=by omega
 have hG0:G ≠ 0:=fun e=>hD0 (Nat.eq_zero_of_gcd_eq_zero_right (hG.trans e))
 have hGD:G <= D:=by rw [<- hG]; exact Nat.gcd_le_right _ (Nat.pos_of_ne_zero hD0)
 have hD'0:D' ≠ 0:=by have:=Nat.div_pos hGD (Nat.pos_of_ne_zero hG0); omega
 have hN'N:N' <= N:=by rw [<- hN']; exact Nat.div_le_self _ _
 have hD'D:D' <= D:=by rw [<- hD']; exact Nat.div_le_self _ _
 have HG:=zc hG
 have HN62:Hid (N < 2 ^ 62):=zc (by omega)
 have HD62:Hid (D < 2 ^ 62):=zc (by omega)
 have HN':Hid (N' < 2 ^ 62):=zc (by omega)
 have HD':Hid (D' < 2 ^ 62/\D' ≠ 0):=zc ⟨by omega,hD'0⟩
 have hlen1:(Lib.decDigits N').length <= 40:=by rw [Lib.decDigits_length]; exact zem (by decide) (Nat.lt_of_lt_of_le HN'.out (by decide))
 have hlen2:(Lib.decDigits D').length <= 40:=by rw [Lib.decDigits_length]; exact zem (by decide) (Nat.lt_of_lt_of_le HD'.out.1 (by decide))
 have c1:¬ (9223372036854775807 < 1+(Lib.decDigits N').length):=by omega
 have c2:¬ (9223372036854775807 < (Lib.decDigits N').length+1):=by omega
 have c3:¬ (9223372036854775807 < 1+(Lib.decDigits N').length+1):=by omega
 have c4:¬ (9223372036854775807 < (Lib.decDigits N').length+1+(Lib.decDigits D').length):=by omega
 have c5:¬ (9223372036854775807 < 1+(Lib.decDigits N').length+1+(Lib.decDigits D').length):=by omega
 have c6:¬ (9223372036854775807 < (Lib.decDigits N').length):=by omega
 clear hlen1 hlen2
 have g1:decide (n < -4000000000000000000)=false:=by simp; omega
 have g1':¬ n < -4000000000000000000:=by omega
 have g2:decide ((4000000000000000000:Int) < n)=false:=by simp; omega
 have g2':¬ (4000000000000000000:Int) < n:=by omega
 have g3:decide (d < -4000000000000000000)=false:=by simp; omega
 have g3':¬ d < -4000000000000000000:=by omega
 have g4:decide ((4000000000000000000:Int) < d)=false:=by simp; omega
 have g4':¬ (4000000000000000000:Int) < d:=by omega
 have hGz:((G:Int) == 0)=false:=by rw [beq_eq_false_iff_ne]; omega
 have hGz2:¬ G=0:=hG0
 have hGz3:¬ (G:Int)=0:=by omega
 have td:=zc8 (a:=D) (b:=G) hD' (by omega)
 have td1:Int.tdiv (D:Int) (G:Int)=(D':Int):=td.1
 have td2:(D:Int) / (G:Int)=(D':Int):=td.2.1
 have td3:=td.2.2
 clear td
 by_cases hneg:d < 0
 ·obtain ⟨n1, hn1⟩ : ∃ n1, -n = n1 := ⟨_, rfl⟩
  have hwn:IntKind.i64.wrap (-n)=n1:=by rw [zx]; omega
  have hwd:IntKind.i64.wrap (-d)=(D:Int):=by rw [zx]; omega
  have hneg1:decide (d < 0)=true:=by simp; omega
  have HDV:Hid (Rat.divInt n d=Rat.divInt n1 D):=zc (by rw [<- zfV,hn1,show -d=(D:Int) by omega])
  have hN1:n1.natAbs=N:=by omega
  obtain ⟨m1,hm1⟩:∃ m1,-n1=m1:=⟨_,rfl⟩
  have hwm:IntKind.i64.wrap (-n1)=m1:=by rw [zx]; omega
  have hmx:max n1 m1=(N:Int):=by omega
  obtain ⟨n',hn'⟩:∃ n',Int.tdiv n1 (G:Int)=n':=⟨_,rfl⟩
  have hs:n1=sgn (decide (n1 < 0)) N:=by have:=zcj n1; rw [hN1] at this; exact this.symm
  have hn2:n'=sgn (decide (n1 < 0)) N':=by
   rw [<- hn',<- hN']
   conv=>lhs; rw [hs]
   exact zjI
  have hna:n'.natAbs=N':=by rw [hn2,zaq]
  have HNA:=zc hna
  have hwn':IntKind.i64.wrap n'=n':=by rw [zx]; omega
  obtain ⟨m',hm'⟩:∃ m',-n'=m':=⟨_,rfl⟩
  have hwnn:IntKind.i64.wrap (-n')=m':=by rw [zx]; omega
  have hmx':max n' m'=(N':Int):=by omega
  have HT:Hid (T=itoaZ n' ++ (if D'=1 then [] else 47 :: Lib.decDigits D')):=zc (by
   rw [<- hT,HDV.out,zcp (by omega),Int.natAbs_natCast,hN1,hG,hN',hD',zcZ,hn2])
  clear hT hN hD hG hN' hD' hD0 hGD hD'0 hN'N hD'D hneg hs hn2 hna h1 h2 hd hn1 hm1 hm' hN1
  go_enter Tryz.func136,Tryz.ntmps136
  go_wp2_with fail
  refine zf (zn0 (a:=N) (b:=D) HN62.out HD62.out) ?_
  rw [HG.out]
  rintro e w1 ⟨rfl,hd1⟩
  go_wp2_with fail
  go_quiet (fail)
  have hd2:Drew w (w1.drewN nq):=by first | exact hd1.more _ | exact (Drew.trans (by assumption) hd1).more _
  clear hd1
  generalize w1.drewN nq=w2 at *
  by_cases hneg:n' < 0
  ·have hneg1 : decide (n' < 0) = true := by simp; omega
   have HNEG:=zc hneg
   go_wp2_with fail
   refine zf (zbo HN'.out) ?_
   rintro e w3 ⟨rfl,hd3⟩
   have hd4:=hd2.trans hd3
   have HT2:=zc (HT.out.trans (congrArg (· ++ _) (show itoaZ n'=45 :: Lib.decDigits N' by unfold itoaZ; rw [if_pos (by have:=HNEG.out; omega),HNA.out])))
   clear hneg hd2 hd3
   by_cases hone:D'=1
   ·have hgt : decide ((1 : Int) < (D' : Int)) = false := by simp; omega
    have hgt2:¬ (1:Int) < (D':Int):=by omega
    have HO:=zc hone
    clear hone
    go_wp2_with fail
    go_ret
    refine ⟨?_,⟨hd4.below _⟩⟩
    rw [HT2.out,if_pos HO.out,List.append_nil]
    first | rfl | (rw [cat1]) | (simp [str]; done)
   ·have hgt : decide ((1 : Int) < (D' : Int)) = true := by have := HD'.out; simp; omega
    have hgt2:(1:Int) < (D':Int):=by have:=HD'.out; omega
    have HO:=zc hone
    clear hone
    go_wp2_with fail
    refine zf (zbo HD'.out.1) ?_
    rintro e w4 ⟨rfl,hd5⟩
    have hd6:=hd4.trans hd5
    go_wp2_with fail
    go_ret
    refine ⟨?_,⟨hd6.below _⟩⟩
    rw [HT2.out,if_neg HO.out]
    first | (rw [cat3]; done) | (rw [cat1,cat3]; done) | (rw [<- cat3]; rfl) | (simp [str]; done)
  ·have hneg1 : decide (n' < 0) = false := by simp; omega
   have HNEG:=zc hneg
   go_wp2_with fail
   refine zf (zbo HN'.out) ?_
   rintro e w3 ⟨rfl,hd3⟩
   have hd4:=hd2.trans hd3
   have HT2:=zc (HT.out.trans (congrArg (· ++ _) (show itoaZ n'=Lib.decDigits N' by unfold itoaZ; rw [if_neg (by have:=HNEG.out; omega),HNA.out])))
   clear hneg hd2 hd3
   by_cases hone:D'=1
   ·have hgt : decide ((1 : Int) < (D' : Int)) = false := by simp; omega
    have hgt2:¬ (1:Int) < (D':Int):=by omega
    have HO:=zc hone
    clear hone
    go_wp2_with fail
    go_ret
    refine ⟨?_,⟨hd4.below _⟩⟩
    rw [HT2.out,if_pos HO.out,List.append_nil]
    first | rfl | (rw [cat1]) | (simp [str]; done)
   ·have hgt : decide ((1 : Int) < (D' : Int)) = true := by have := HD'.out; simp; omega
    have hgt2:(1:Int) < (D':Int):=by have:=HD'.out; omega
    have HO:=zc hone
    clear hone
    go_wp2_with fail
    refine zf (zbo HD'.out.1) ?_
    rintro e w4 ⟨rfl,hd5⟩
    have hd6:=hd4.trans hd5
    go_wp2_with fail
    go_ret
    refine ⟨?_,⟨hd6.below _⟩⟩
    rw [HT2.out,if_neg HO.out]
    first | (rw [cat3]; done) | (rw [cat1,cat3]; done) | (rw [<- cat3]; rfl) | (simp [str]; done)
 ·obtain ⟨n1, rfl⟩ : ∃ n1, n = n1 := ⟨_, rfl⟩
  obtain rfl:d=(D:Int):=by omega
  have hneg1:decide ((D:Int) < 0)=false:=by simp
  have HDV:Hid (Rat.divInt n (D:Int)=Rat.divInt n D):=zc rfl
  have hN1:=hN
  obtain ⟨m1,hm1⟩:∃ m1,-n=m1:=⟨_,rfl⟩
  have hwm:IntKind.i64.wrap (-n)=m1:=by rw [zx]; omega
  have hmx:max n m1=(N:Int):=by omega
  obtain ⟨n',hn'⟩:∃ n',Int.tdiv n (G:Int)=n':=⟨_,rfl⟩
  have hs:n=sgn (decide (n < 0)) N:=by have:=zcj n; rw [hN1] at this; exact this.symm
  have hn2:n'=sgn (decide (n < 0)) N':=by
   rw [<- hn',<- hN']
   conv=>lhs; rw [hs]
   exact zjI
  have hna:n'.natAbs=N':=by rw [hn2,zaq]
  have HNA:=zc hna
  have hwn':IntKind.i64.wrap n'=n':=by rw [zx]; omega
  obtain ⟨m',hm'⟩:∃ m',-n'=m':=⟨_,rfl⟩
  have hwnn:IntKind.i64.wrap (-n')=m':=by rw [zx]; omega
  have hmx':max n' m'=(N':Int):=by omega
  have HT:Hid (T=itoaZ n' ++ (if D'=1 then [] else 47 :: Lib.decDigits D')):=zc (by
   rw [<- hT,HDV.out,zcp (by omega),Int.natAbs_natCast,hN1,hG,hN',hD',zcZ,hn2])
  clear hT hN hD hG hN' hD' hD0 hGD hD'0 hN'N hD'D hneg hs hn2 hna h1 h2 hd hm1 hm' hN1
  go_enter Tryz.func136,Tryz.ntmps136
  go_wp2_with fail
  refine zf (zn0 (a:=N) (b:=D) HN62.out HD62.out) ?_
  rw [HG.out]
  rintro e w1 ⟨rfl,hd1⟩
  go_wp2_with fail
  go_quiet (fail)
  have hd2:Drew w (w1.drewN nq):=by first | exact hd1.more _ | exact (Drew.trans (by assumption) hd1).more _
  clear hd1
  generalize w1.drewN nq=w2 at *
  by_cases hneg:n' < 0
  ·have hneg1 : decide (n' < 0) = true := by simp; omega
   have HNEG:=zc hneg
   go_wp2_with fail
   refine zf (zbo HN'.out) ?_
   rintro e w3 ⟨rfl,hd3⟩
   have hd4:=hd2.trans hd3
   have HT2:=zc (HT.out.trans (congrArg (· ++ _) (show itoaZ n'=45 :: Lib.decDigits N' by unfold itoaZ; rw [if_pos (by have:=HNEG.out; omega),HNA.out])))
   clear hneg hd2 hd3
   by_cases hone:D'=1
   ·have hgt : decide ((1 : Int) < (D' : Int)) = false := by simp; omega
    have hgt2:¬ (1:Int) < (D':Int):=by omega
    have HO:=zc hone
    clear hone
    go_wp2_with fail
    go_ret
    refine ⟨?_,⟨hd4.below _⟩⟩
    rw [HT2.out,if_pos HO.out,List.append_nil]
    first | rfl | (rw [cat1]) | (simp [str]; done)
   ·have hgt : decide ((1 : Int) < (D' : Int)) = true := by have := HD'.out; simp; omega
    have hgt2:(1:Int) < (D':Int):=by have:=HD'.out; omega
    have HO:=zc hone
    clear hone
    go_wp2_with fail
    refine zf (zbo HD'.out.1) ?_
    rintro e w4 ⟨rfl,hd5⟩
    have hd6:=hd4.trans hd5
    go_wp2_with fail
    go_ret
    refine ⟨?_,⟨hd6.below _⟩⟩
    rw [HT2.out,if_neg HO.out]
    first | (rw [cat3]; done) | (rw [cat1,cat3]; done) | (rw [<- cat3]; rfl) | (simp [str]; done)
  ·have hneg1 : decide (n' < 0) = false := by simp; omega
   have HNEG:=zc hneg
   go_wp2_with fail
   refine zf (zbo HN'.out) ?_
   rintro e w3 ⟨rfl,hd3⟩
   have hd4:=hd2.trans hd3
   have HT2:=zc (HT.out.trans (congrArg (· ++ _) (show itoaZ n'=Lib.decDigits N' by unfold itoaZ; rw [if_neg (by have:=HNEG.out; omega),HNA.out])))
   clear hneg hd2 hd3
   by_cases hone:D'=1
   ·have hgt : decide ((1 : Int) < (D' : Int)) = false := by simp; omega
    have hgt2:¬ (1:Int) < (D':Int):=by omega
    have HO:=zc hone
    clear hone
    go_wp2_with fail
    go_ret
    refine ⟨?_,⟨hd4.below _⟩⟩
    rw [HT2.out,if_pos HO.out,List.append_nil]
    first | rfl | (rw [cat1]) | (simp [str]; done)
   ·have hgt : decide ((1 : Int) < (D' : Int)) = true := by have := HD'.out; simp; omega
    have hgt2:(1:Int) < (D':Int):=by have:=HD'.out; omega
    have HO:=zc hone
    clear hone
    go_wp2_with fail
    refine zf (zbo HD'.out.1) ?_
    rintro e w4 ⟨rfl,hd5⟩
    have hd6:=hd4.trans hd5
    go_wp2_with fail
    go_ret
    refine ⟨?_,⟨hd6.below _⟩⟩
    rw [HT2.out,if_neg HO.out]
    first | (rw [cat3]; done) | (rw [cat1,cat3]; done) | (rw [<- cat3]; rfl) | (simp [str]; done)
theorem zeh {q:Rat} {w:World}:Calls Tryz.prog 135 #[str (zad q)] w (QkRet w q.num (q.den:Int)):=by
 have h:=zkp (s:=⟨(zad q).toArray⟩) (b:=decide (q.num < 0)) (t:=decide (q.den ≠ 1)) (N:=Lib.decDigits q.num.natAbs) (D:=Lib.decDigits q.den) (w:=w) (by rw [<- zbk]) (zdi _) (fun _=>zdi _) (by
  intro e
  have h1:=Lib.decDigits_length q.num.natAbs
  have h2:=Lib.nDigits_pos q.num.natAbs
  rw [e] at h1
  simp at h1; omega)
 rw [zcC,zcC,zcj] at h
 have e:(if decide (q.den ≠ 1)=true then (q.den:Int) else 1)=(q.den:Int):=by
  by_cases h1:q.den=1
  ·simp [h1]
  ·simp [h1]
 rw [e] at h
 exact h
theorem zdm (p q:Rat):Rat.divInt (p.num * q.den+q.num * p.den) (p.den * q.den)=p+q:=by
 rw [Rat.add_def',<- Rat.divInt_ofNat]; push_cast; rfl
theorem zdd (p q:Rat):Rat.divInt (p.num * q.num) (p.den * q.den)=p * q:=by
 rw [Rat.mul_def',<- Rat.divInt_ofNat]; push_cast; rfl
theorem zgQ (p q:Rat):(p.den:Int) * (q.den:Int) ≠ 0:=Int.mul_ne_zero (by have:=p.den_nz; omega) (by have:=q.den_nz; omega)
theorem zdQ {x y:Int} (h1:x.natAbs < 10 ^ 9) (h2:y.natAbs < 10 ^ 9):(x * y).natAbs <= 1000000000000000000:=by
 rw [Int.natAbs_mul]
 have:=Nat.mul_le_mul (Nat.le_of_lt h1) (Nat.le_of_lt h2)
 simpa using this
section
variable {v1 v2:Value} {x y:Int} {a b:Nat} {w:World}
theorem zc7 [h1:ZIs w v1 x] [h2:ZIs w v2 y] [d1:Wd x a] [d2:Wd y b] (ha:a <= 2 ^ 24) (hb:b <= 2 ^ 24):Calls Tryz.prog 139 #[v1,v2] w (ZRet w (x * y)):=
 zmL (zo (dl_wl d1.out) (by omega)) (zo (dl_wl d2.out) (by omega))
theorem zei [h1:ZIs w v1 x] [h2:ZIs w v2 y] [d1:Wd x a] [d2:Wd y b] (ha:a <= 2 ^ 24) (hb:b <= 2 ^ 24):Calls Tryz.prog 138 #[v1,v2] w (ZRet w (x+y)):=
 plus9_c (zo (dl_wl d1.out) (by omega)) (zo (dl_wl d2.out) (by omega))
end
theorem zn9 {p q:Rat} {a b:Nat} {w:World} [d1:Sz p a] [d2:Sz q b] (ha:a <= 2 ^ 15) (hb:b <= 2 ^ 15):
  Calls Tryz.prog 51 #[str (zad p),str (zad q)] w (PRet w (str (zad (p+q)))):=by
 have HA:=zc ha; have HB:=zc hb
 have HNZ:Hid ((p.den:Int) * (q.den:Int) ≠ 0):=zc (zgQ p q)
 clear ha hb
 go_enter Tryz.func51,Tryz.ntmps51
 go_wp2_with fail
 refine zf (zeh (q:=p)) ?_
 rintro e w1 ⟨hq1,hx1⟩
 rcases hq1 with rfl | ⟨rfl,hb1,hb2⟩
 ·go_wp2_with fail
  refine zf (zeh (q:=q)) ?_
  rintro e w2 ⟨hq2,hx2⟩
  rcases hq2 with rfl | ⟨rfl,hb3,hb4⟩
  ·
   go_wp2_with fail
   refine zf (zbW (q:=p) HA.out) ?_
   rintro e w3 ⟨⟨bn,⟨An,kn,cn⟩⟩,⟨bd,⟨Ad,kd,cd⟩⟩,rfl,zn,zd,hx3⟩
   go_wp2_with fail
   refine zf (zbW (q:=q) HB.out) ?_
   rintro e w4 ⟨⟨bm,⟨Am,km,cm⟩⟩,⟨be,⟨Ae,ke,ce⟩⟩,rfl,zm,ze,hx4⟩
   go_wp2_with fail
   (refine Code.nameW ?_; intro W hW; go_region_held3 (fun w'=>ButO W [] w') (exact zab) ((first | (go_at_call 139; refine zf (zc7 (by have:=HA.out; have:=HB.out; omega) (by have:=HA.out; have:=HB.out; omega)) ?_; rintro e w5 ⟨⟨b5,⟨A5,k5,c5⟩⟩,rfl,z5,hx5⟩) | (go_at_call 138; refine zf (zei (by have:=HA.out; have:=HB.out; omega) (by have:=HA.out; have:=HB.out; omega)) ?_; rintro e w5 ⟨⟨b5,⟨A5,k5,c5⟩⟩,rfl,z5,hx5⟩) | (go_at_call 137; refine zf (zbH (HNZ.out) (by have:=HA.out; have:=HB.out; omega) (by have:=HA.out; have:=HB.out; omega)) ?_; rintro e w6 ⟨rfl,hx6⟩))))
   all_goals go_wp2_with fail
   all_goals go_ret
   all_goals exact ⟨by rw [zdm]; rfl,zaa⟩
  ·clear hb3 hb4
   go_wp2_with fail
   refine zf (zbW (q:=p) HA.out) ?_
   rintro e w3 ⟨⟨bn,⟨An,kn,cn⟩⟩,⟨bd,⟨Ad,kd,cd⟩⟩,rfl,zn,zd,hx3⟩
   go_wp2_with fail
   refine zf (zbW (q:=q) HB.out) ?_
   rintro e w4 ⟨⟨bm,⟨Am,km,cm⟩⟩,⟨be,⟨Ae,ke,ce⟩⟩,rfl,zm,ze,hx4⟩
   go_wp2_with fail
   (refine Code.nameW ?_; intro W hW; go_region_held3 (fun w'=>ButO W [] w') (exact zab) ((first | (go_at_call 139; refine zf (zc7 (by have:=HA.out; have:=HB.out; omega) (by have:=HA.out; have:=HB.out; omega)) ?_; rintro e w5 ⟨⟨b5,⟨A5,k5,c5⟩⟩,rfl,z5,hx5⟩) | (go_at_call 138; refine zf (zei (by have:=HA.out; have:=HB.out; omega) (by have:=HA.out; have:=HB.out; omega)) ?_; rintro e w5 ⟨⟨b5,⟨A5,k5,c5⟩⟩,rfl,z5,hx5⟩) | (go_at_call 137; refine zf (zbH (HNZ.out) (by have:=HA.out; have:=HB.out; omega) (by have:=HA.out; have:=HB.out; omega)) ?_; rintro e w6 ⟨rfl,hx6⟩))))
   all_goals go_wp2_with fail
   all_goals go_ret
   all_goals exact ⟨by rw [zdm]; rfl,zaa⟩
 ·have HB1 := zc hb1; have HB2 := zc hb2
  clear hb1 hb2
  go_wp2_with fail
  refine zf (zeh (q:=q)) ?_
  rintro e w2 ⟨hq2,hx2⟩
  rcases hq2 with rfl | ⟨rfl,hb3,hb4⟩
  ·
   go_wp2_with fail
   refine zf (zbW (q:=p) HA.out) ?_
   rintro e w3 ⟨⟨bn,⟨An,kn,cn⟩⟩,⟨bd,⟨Ad,kd,cd⟩⟩,rfl,zn,zd,hx3⟩
   go_wp2_with fail
   refine zf (zbW (q:=q) HB.out) ?_
   rintro e w4 ⟨⟨bm,⟨Am,km,cm⟩⟩,⟨be,⟨Ae,ke,ce⟩⟩,rfl,zm,ze,hx4⟩
   go_wp2_with fail
   (refine Code.nameW ?_; intro W hW; go_region_held3 (fun w'=>ButO W [] w') (exact zab) ((first | (go_at_call 139; refine zf (zc7 (by have:=HA.out; have:=HB.out; omega) (by have:=HA.out; have:=HB.out; omega)) ?_; rintro e w5 ⟨⟨b5,⟨A5,k5,c5⟩⟩,rfl,z5,hx5⟩) | (go_at_call 138; refine zf (zei (by have:=HA.out; have:=HB.out; omega) (by have:=HA.out; have:=HB.out; omega)) ?_; rintro e w5 ⟨⟨b5,⟨A5,k5,c5⟩⟩,rfl,z5,hx5⟩) | (go_at_call 137; refine zf (zbH (HNZ.out) (by have:=HA.out; have:=HB.out; omega) (by have:=HA.out; have:=HB.out; omega)) ?_; rintro e w6 ⟨rfl,hx6⟩))))
   all_goals go_wp2_with fail
   all_goals go_ret
   all_goals exact ⟨by rw [zdm]; rfl,zaa⟩
  ·
   have g1:=zdQ HB1.out hb4
   have g2:=zdQ hb3 HB2.out
   have g3:=zdQ HB2.out hb4
   have HTX:=zc (zdm p q)
   clear hb3 hb4
   obtain ⟨x1,e1⟩:∃ x1,p.num * (q.den:Int)=x1:=⟨_,rfl⟩
   obtain ⟨x2,e2⟩:∃ x2,q.num * (p.den:Int)=x2:=⟨_,rfl⟩
   obtain ⟨x4,e4⟩:∃ x4,(p.den:Int) * (q.den:Int)=x4:=⟨_,rfl⟩
   rw [e1] at g1
   rw [e2] at g2
   rw [e4] at g3
   rw [e1,e2,e4] at HTX
   have HNZ2:Hid (x4 ≠ 0):=zc (by rw [<- e4]; exact HNZ.out)
   obtain ⟨x3,hx3⟩:∃ x3,x1+x2=x3:=⟨_,rfl⟩
   have m1:IntKind.i64.wrap x1=x1:=by rw [zx]; omega
   have m2:IntKind.i64.wrap x2=x2:=by rw [zx]; omega
   have m4:IntKind.i64.wrap x4=x4:=by rw [zx]; omega
   have m3:IntKind.i64.wrap (x1+x2)=x3:=by rw [zx]; omega
   have HO:Hid (x3.natAbs <= 4000000000000000000/\x4.natAbs <= 4000000000000000000):=zc (by omega)
   rw [hx3] at HTX
   clear g1 g2 g3 hx3
   go_wp2_with fail
   refine zf (of9_c HO.out.1 HO.out.2 HNZ2.out) ?_
   rintro e w5 ⟨rfl,hx5⟩
   go_wp2_with fail
   go_ret
   exact ⟨by rw [HTX.out]; rfl,zaa⟩
theorem zoh {p q:Rat} {a b:Nat} {w:World} [d1:Sz p a] [d2:Sz q b] (ha:a <= 2 ^ 15) (hb:b <= 2 ^ 15):
  Calls Tryz.prog 52 #[str (zad p),str (zad q)] w (PRet w (str (zad (p * q)))):=by
 have HA:=zc ha; have HB:=zc hb
 have HNZ:Hid ((p.den:Int) * (q.den:Int) ≠ 0):=zc (zgQ p q)
 clear ha hb
 go_enter Tryz.func52,Tryz.ntmps52
 go_wp2_with fail
 refine zf (zeh (q:=p)) ?_
 rintro e w1 ⟨hq1,hx1⟩
 rcases hq1 with rfl | ⟨rfl,hb1,hb2⟩
 ·go_wp2_with fail
  refine zf (zeh (q:=q)) ?_
  rintro e w2 ⟨hq2,hx2⟩
  rcases hq2 with rfl | ⟨rfl,hb3,hb4⟩
  ·
   go_wp2_with fail
   refine zf (zbW (q:=p) HA.out) ?_
   rintro e w3 ⟨⟨bn,⟨An,kn,cn⟩⟩,⟨bd,⟨Ad,kd,cd⟩⟩,rfl,zn,zd,hx3⟩
   go_wp2_with fail
   refine zf (zbW (q:=q) HB.out) ?_
   rintro e w4 ⟨⟨bm,⟨Am,km,cm⟩⟩,⟨be,⟨Ae,ke,ce⟩⟩,rfl,zm,ze,hx4⟩
   go_wp2_with fail
   (refine Code.nameW ?_; intro W hW; go_region_held3 (fun w'=>ButO W [] w') (exact zab) ((first | (go_at_call 139; refine zf (zc7 (by have:=HA.out; have:=HB.out; omega) (by have:=HA.out; have:=HB.out; omega)) ?_; rintro e w5 ⟨⟨b5,⟨A5,k5,c5⟩⟩,rfl,z5,hx5⟩) | (go_at_call 138; refine zf (zei (by have:=HA.out; have:=HB.out; omega) (by have:=HA.out; have:=HB.out; omega)) ?_; rintro e w5 ⟨⟨b5,⟨A5,k5,c5⟩⟩,rfl,z5,hx5⟩) | (go_at_call 137; refine zf (zbH (HNZ.out) (by have:=HA.out; have:=HB.out; omega) (by have:=HA.out; have:=HB.out; omega)) ?_; rintro e w6 ⟨rfl,hx6⟩))))
   all_goals go_wp2_with fail
   all_goals go_ret
   all_goals exact ⟨by rw [zdd]; rfl,zaa⟩
  ·clear hb3 hb4
   go_wp2_with fail
   refine zf (zbW (q:=p) HA.out) ?_
   rintro e w3 ⟨⟨bn,⟨An,kn,cn⟩⟩,⟨bd,⟨Ad,kd,cd⟩⟩,rfl,zn,zd,hx3⟩
   go_wp2_with fail
   refine zf (zbW (q:=q) HB.out) ?_
   rintro e w4 ⟨⟨bm,⟨Am,km,cm⟩⟩,⟨be,⟨Ae,ke,ce⟩⟩,rfl,zm,ze,hx4⟩
   go_wp2_with fail
   (refine Code.nameW ?_; intro W hW; go_region_held3 (fun w'=>ButO W [] w') (exact zab) ((first | (go_at_call 139; refine zf (zc7 (by have:=HA.out; have:=HB.out; omega) (by have:=HA.out; have:=HB.out; omega)) ?_; rintro e w5 ⟨⟨b5,⟨A5,k5,c5⟩⟩,rfl,z5,hx5⟩) | (go_at_call 138; refine zf (zei (by have:=HA.out; have:=HB.out; omega) (by have:=HA.out; have:=HB.out; omega)) ?_; rintro e w5 ⟨⟨b5,⟨A5,k5,c5⟩⟩,rfl,z5,hx5⟩) | (go_at_call 137; refine zf (zbH (HNZ.out) (by have:=HA.out; have:=HB.out; omega) (by have:=HA.out; have:=HB.out; omega)) ?_; rintro e w6 ⟨rfl,hx6⟩))))
   all_goals go_wp2_with fail
   all_goals go_ret
   all_goals exact ⟨by rw [zdd]; rfl,zaa⟩
 ·have HB1 := zc hb1; have HB2 := zc hb2
  clear hb1 hb2
  go_wp2_with fail
  refine zf (zeh (q:=q)) ?_
  rintro e w2 ⟨hq2,hx2⟩
  rcases hq2 with rfl | ⟨rfl,hb3,hb4⟩
  ·
   go_wp2_with fail
   refine zf (zbW (q:=p) HA.out) ?_
   rintro e w3 ⟨⟨bn,⟨An,kn,cn⟩⟩,⟨bd,⟨Ad,kd,cd⟩⟩,rfl,zn,zd,hx3⟩
   go_wp2_with fail
   refine zf (zbW (q:=q) HB.out) ?_
   rintro e w4 ⟨⟨bm,⟨Am,km,cm⟩⟩,⟨be,⟨Ae,ke,ce⟩⟩,rfl,zm,ze,hx4⟩
   go_wp2_with fail
   (refine Code.nameW ?_; intro W hW; go_region_held3 (fun w'=>ButO W [] w') (exact zab) ((first | (go_at_call 139; refine zf (zc7 (by have:=HA.out; have:=HB.out; omega) (by have:=HA.out; have:=HB.out; omega)) ?_; rintro e w5 ⟨⟨b5,⟨A5,k5,c5⟩⟩,rfl,z5,hx5⟩) | (go_at_call 138; refine zf (zei (by have:=HA.out; have:=HB.out; omega) (by have:=HA.out; have:=HB.out; omega)) ?_; rintro e w5 ⟨⟨b5,⟨A5,k5,c5⟩⟩,rfl,z5,hx5⟩) | (go_at_call 137; refine zf (zbH (HNZ.out) (by have:=HA.out; have:=HB.out; omega) (by have:=HA.out; have:=HB.out; omega)) ?_; rintro e w6 ⟨rfl,hx6⟩))))
   all_goals go_wp2_with fail
   all_goals go_ret
   all_goals exact ⟨by rw [zdd]; rfl,zaa⟩
  ·
   have g1:=zdQ HB1.out hb3
   have g3:=zdQ HB2.out hb4
   have HTX:=zc (zdd p q)
   clear hb3 hb4
   obtain ⟨x1,e1⟩:∃ x1,p.num * q.num=x1:=⟨_,rfl⟩
   obtain ⟨x4,e4⟩:∃ x4,(p.den:Int) * (q.den:Int)=x4:=⟨_,rfl⟩
   rw [e1] at g1
   rw [e4] at g3
   rw [e1,e4] at HTX
   have HNZ2:Hid (x4 ≠ 0):=zc (by rw [<- e4]; exact HNZ.out)
   have m1:IntKind.i64.wrap x1=x1:=by rw [zx]; omega
   have m4:IntKind.i64.wrap x4=x4:=by rw [zx]; omega
   have HO:Hid (x1.natAbs <= 4000000000000000000/\x4.natAbs <= 4000000000000000000):=zc (by omega)
   clear g1 g3
   go_wp2_with fail
   refine zf (of9_c HO.out.1 HO.out.2 HNZ2.out) ?_
   rintro e w5 ⟨rfl,hx5⟩
   go_wp2_with fail
   go_ret
   exact ⟨by rw [HTX.out]; rfl,zaa⟩
def sgQ (q:Rat):Int:=if q=0 then 0 else if q.num < 0 then -1 else 1
theorem zn5 (n:Nat):Lib.decDigits n ≠ []:=by
 intro e
 have h1:=Lib.decDigits_length n
 have h2:=Lib.nDigits_pos n
 rw [e] at h1
 simp at h1; omega
theorem zir {n:Nat}:Lib.decDigits n=[48] ↔ n=0:=by
 constructor
 ·intro h
  have:=zcC n
  rw [h] at this
  simpa [zac] using this.symm
 ·rintro rfl; exact zbP (by decide)
theorem zey {q:Rat}:zad q=[48] ↔ q=0:=by
 constructor
 ·intro h
  rw [zbk] at h
  by_cases hd:q.den=1
  ·by_cases hn : q.num < 0
   ·simp [fracL,hd,hn] at h
   ·simp only [fracL, hd, hn, decide_false, Bool.false_eq_true, if_false, ne_eq, not_true, List.append_nil] at h
    have:=zir.1 h
    exact Rat.num_eq_zero.1 (by omega)
  ·have hl := congrArg List.length h
   have h1:=List.length_pos_iff.2 (zn5 q.num.natAbs)
   have h2:(decide (q.den ≠ 1))=true:=decide_eq_true hd
   rw [zeX,h2,zfO] at hl
   simp only [if_true,List.length_singleton] at hl
   split at hl <;> omega
 ·rintro rfl
  unfold zad
  rw [show (0:Rat).num=0 from rfl,show (0:Rat).den=1 from rfl,if_pos rfl,zgJ]; rfl
theorem zg5 {q:Rat}:∃ c l,zad q=c :: l/\(q.num < 0 -> c=45)/\(¬ q.num < 0 -> 48 <= c.toNat):=by
 rw [zbk]
 by_cases hn:q.num < 0
 ·exact ⟨45,Lib.decDigits q.num.natAbs ++ (if decide (q.den ≠ 1) then 47 :: Lib.decDigits q.den else []),by simp [fracL,hn],fun _=>rfl,fun h=>absurd hn h⟩
 ·cases hD : Lib.decDigits q.num.natAbs with
  | nil=>exact absurd hD (zn5 _)
  | cons c l=>
   refine ⟨c,l ++ (if decide (q.den ≠ 1) then 47 :: Lib.decDigits q.den else []),by simp [fracL,hn],fun h=>absurd h hn,fun _=>?_⟩
   exact (zdi q.num.natAbs c (by rw [hD]; exact List.mem_cons_self)).1
theorem znF {s:ByteArray} {l:List UInt8}:(s.toList == l)=decide (s.data.toList=l):=by
 rw [ByteArray.toList_eq]
 by_cases h:s.data.toList=l
 ·rw [decide_eq_true h,h]; simp
 ·rw [decide_eq_false h]; simpa using h
theorem zfh {s:ByteArray} {q:Rat} {w:World} (hs:s.data.toList=zad q):Calls Tryz.prog 14 #[.string s] w (PRet w (.int .i64 (sgQ q))):=by
 have hb:(s.toList == [48])=decide (q=0):=by
  have:=znF (s:=s) (l:=[48])
  rw [hs] at this
  rw [this]
  exact decide_eq_decide.2 zey
 by_cases h0:q=0
 ·have hb1 : (s.toList == [48]) = true := by rw [hb]; exact decide_eq_true h0
  have HV:Hid (sgQ q=0):=zc (if_pos h0)
  clear hb h0 hs
  go_enter Tryz.func14,Tryz.ntmps14
  go_wp2_with fail
  go_ret
  exact ⟨by rw [HV.out]; rfl,zaa⟩
 ·have hb1 : (s.toList == [48]) = false := by rw [hb]; exact decide_eq_false h0
  obtain ⟨c,l,hl,h1,h2⟩:=zg5 (q:=q)
  obtain ⟨p0,hc⟩:=zcA (hs.trans hl)
  have hgt:decide ((0:Int) < (s.size:Int))=true:=by simp; omega
  have hgt':(0:Int) < (s.size:Int):=by omega
  by_cases hn:q.num < 0
  ·have heq : ((c.toNat : Int) == 45) = true := by rw [h1 hn]; rfl
   have HV:Hid (sgQ q = -1):=zc (by unfold sgQ; rw [if_neg h0,if_pos hn])
   clear hb h0 hs hl h1 h2 hn
   go_enter Tryz.func14,Tryz.ntmps14
   go_wp2_with fail
   go_ret
   exact ⟨by rw [HV.out]; rfl,zaa⟩
  ·have heq : ((c.toNat : Int) == 45) = false := by have := h2 hn; rw [beq_eq_false_iff_ne]; omega
   have HV:Hid (sgQ q=1):=zc (by unfold sgQ; rw [if_neg h0,if_neg hn])
   clear hb h0 hs hl h1 h2 hn
   go_enter Tryz.func14,Tryz.ntmps14
   go_wp2_with fail
   go_ret
   exact ⟨by rw [HV.out]; rfl,zaa⟩
theorem zo5 {q:Rat} {w:World}:Calls Tryz.prog 14 #[str (zad q)] w (PRet w (.int .i64 (sgQ q))):=zfh (s:=⟨(zad q).toArray⟩) rfl
theorem zck {q:Rat} (h:q.num < 0):zad q=45 :: zad (-q):=by
 unfold zad
 rw [Rat.neg_num,Rat.neg_den]
 unfold itoaZ
 rw [if_pos h,if_neg (show ¬ (-q.num < 0) by omega),Int.natAbs_neg]
 rfl
theorem ziW {q:Rat} (h:0 < q.num):zad (-q)=45 :: zad q:=by
 have:=zck (q := -q) (by rw [Rat.neg_num]; omega)
 rwa [Rat.neg_neg] at this
def abQ (q:Rat):Rat:=if q.num < 0 then -q else q
theorem zjM {q:Rat}:sgQ q < 0 ↔ q.num < 0:=by
 unfold sgQ
 by_cases h0:q=0
 ·subst h0; simp
 ·rw [if_neg h0]
  split
  ·rename_i h; exact ⟨fun _=>h,fun _=>by decide⟩
  ·rename_i h; exact ⟨fun h2=>absurd h2 (by decide),fun h2=>absurd h2 h⟩
theorem zjL {q:Rat}:sgQ q=0 ↔ q=0:=by
 unfold sgQ
 by_cases h0:q=0
 ·simp [h0]
 ·rw [if_neg h0]
  split <;> simp [h0]
theorem zm2 {s:ByteArray} {q:Rat} {w:World} (hs:s.data.toList=zad q) (hl:(zad q).length <= 2 ^ 40):Calls Tryz.prog 127 #[.string s] w (PRet w (str (zad (-q)))):=by
 have HSG:Hid (∀ w,Calls _ _ _ w _):=zc (fun w=>zfh (s:=s) (q:=q) (w:=w) hs)
 have hsz:s.size=(zad q).length:=by rw [<- hs]; simp
 obtain ⟨x,hx⟩:∃ x,sgQ q=x:=⟨_,rfl⟩
 rw [hx] at HSG
 by_cases hn:q.num < 0
 ·have h1 : x < 0 := by rw [<- hx]; exact zjM.2 hn
  have h1':decide (x < 0)=true:=decide_eq_true h1
  have hb1:(1:Int) <= (s.size:Int):=by rw [hsz,zck hn]; simp; omega
  have HV:Hid (Value.string (s.extract 1 s.size)=str (zad (-q))):=zc (by rw [str_eq,za9,hs,zck hn]; rfl)
  clear hs hl hsz hx hn
  go_enter Tryz.func127,Tryz.ntmps127
  go_wp2_with fail
  refine zf (HSG.out _) ?_
  rintro e w1 ⟨rfl,hx1⟩
  go_wp2_with fail
  go_ret
  exact ⟨by rw [<- HV.out]; rfl,zaa⟩
 ·have h1 : ¬ x < 0 := by rw [<- hx]; exact fun h => hn (zjM.1 h)
  have h1':decide (x < 0)=false:=decide_eq_false h1
  by_cases h0:q=0
  ·have h2 : (x == 0) = true := by rw [<- hx, zjL.2 h0]; rfl
   have HV:Hid (Value.string s=str (zad (-q))):=zc (by rw [str_eq,hs,h0]; rfl)
   clear hs hl hsz hx hn h0
   go_enter Tryz.func127,Tryz.ntmps127
   go_wp2_with fail
   refine zf (HSG.out _) ?_
   rintro e w1 ⟨rfl,hx1⟩
   go_wp2_with fail
   refine zf (HSG.out _) ?_
   rintro e w2 ⟨rfl,hx2⟩
   go_wp2_with fail
   go_ret
   exact ⟨by rw [<- HV.out]; rfl,zaa⟩
  ·have h2 : (x == 0) = false := by rw [beq_eq_false_iff_ne]; exact fun h => h0 (zjL.1 (hx.trans h))
   have hp:0 < q.num:=by
    have:q.num ≠ 0:=fun h=>h0 (Rat.num_eq_zero.1 h)
    omega
   have HV:Hid (Value.string ((⟨#[45]⟩:ByteArray) ++ s)=str (zad (-q))):=zc (by
    obtain ⟨⟨d⟩⟩:=s
    simp only at hs
    rw [cat1,ziW hp,<- hs])
   have hcat:¬ (9223372036854775807 < 1+s.size):=by omega
   clear hs hl hsz hx hn h0 hp
   go_enter Tryz.func127,Tryz.ntmps127
   go_wp2_with fail
   refine zf (HSG.out _) ?_
   rintro e w1 ⟨rfl,hx1⟩
   go_wp2_with fail
   refine zf (HSG.out _) ?_
   rintro e w2 ⟨rfl,hx2⟩
   go_wp2_with fail
   go_ret
   exact ⟨by rw [<- HV.out]; rfl,zaa⟩
theorem znM {s:ByteArray} {q:Rat} {w:World} (hs:s.data.toList=zad q):Calls Tryz.prog 203 #[.string s] w (PRet w (str (zad (abQ q)))):=by
 have HSG:Hid (∀ w,Calls _ _ _ w _):=zc (fun w=>zfh (s:=s) (q:=q) (w:=w) hs)
 have hsz:s.size=(zad q).length:=by rw [<- hs]; simp
 obtain ⟨x,hx⟩:∃ x,sgQ q=x:=⟨_,rfl⟩
 rw [hx] at HSG
 by_cases hn:q.num < 0
 ·have h1 : x < 0 := by rw [<- hx]; exact zjM.2 hn
  have h1':decide (x < 0)=true:=decide_eq_true h1
  have hb1:(1:Int) <= (s.size:Int):=by rw [hsz,zck hn]; simp; omega
  have HV:Hid (Value.string (s.extract 1 s.size)=str (zad (abQ q))):=zc (by rw [str_eq,za9,hs,zck hn,abQ,if_pos hn]; rfl)
  clear hs hsz hx hn
  go_enter Tryz.func203,Tryz.ntmps203
  go_wp2_with fail
  refine zf (HSG.out _) ?_
  rintro e w1 ⟨rfl,hx1⟩
  go_wp2_with fail
  go_ret
  exact ⟨by rw [<- HV.out]; rfl,zaa⟩
 ·have h1 : ¬ x < 0 := by rw [<- hx]; exact fun h => hn (zjM.1 h)
  have h1':decide (x < 0)=false:=decide_eq_false h1
  have HV:Hid (Value.string s=str (zad (abQ q))):=zc (by rw [str_eq,hs,abQ,if_neg hn])
  clear hs hsz hx hn
  go_enter Tryz.func203,Tryz.ntmps203
  go_wp2_with fail
  refine zf (HSG.out _) ?_
  rintro e w1 ⟨rfl,hx1⟩
  go_wp2_with fail
  go_ret
  exact ⟨by rw [<- HV.out]; rfl,zaa⟩
theorem zqu {q:Rat} {a:Nat} {w:World} [d:Sz q a] (ha:a <= 2 ^ 30):Calls Tryz.prog 127 #[str (zad q)] w (PRet w (str (zad (-q)))):=zm2 (s:=⟨(zad q).toArray⟩) rfl (zo (zdu d) (by omega))
theorem zmA {q:Rat} {w:World}:Calls Tryz.prog 203 #[str (zad q)] w (PRet w (str (zad (abQ q)))):=znM (s:=⟨(zad q).toArray⟩) rfl
theorem zcG (z:Int):zad (z:Rat)=itoaZ z:=by
 unfold zad
 rw [Rat.num_intCast,Rat.den_intCast,if_pos rfl,List.append_nil]
theorem zfp (n:Nat):zad (n:Rat)=Lib.decDigits n:=by
 have:=zcG (n:Int)
 rw [zcZ] at this
 exact this
theorem zfY (q:Rat):zas (zad q)=(itoaZ q.num).length/\(zad q).length=(itoaZ q.num).length+(if q.den=1 then 0 else (Lib.decDigits q.den).length+1):=by
 have e:itoaZ q.num=fracN (decide (q.num < 0)) (Lib.decDigits q.num.natAbs):=by
  unfold itoaZ fracN
  by_cases h:q.num < 0 <;> simp [h]
 rw [zbk,zgL (zdi _),zeX,e]
 refine ⟨rfl,?_⟩
 by_cases h:q.den=1 <;> simp [h]
theorem zlv {q:Rat} {a:Nat} {w:World} [d:Sz q a] (ha:a <= 2 ^ 30):Calls Tryz.prog 82 #[str (zad q)] w (PRet w (str (zad (q.num:Rat)))):=by
 have hl:=zdu d
 obtain ⟨h1,h2⟩:=zfY q
 have hN:(zad q).take (itoaZ q.num).length=itoaZ q.num:=by unfold zad; rw [List.take_left]
 rw [zcG]
 obtain ⟨L,hL⟩:∃ L,zad q=L:=⟨_,rfl⟩
 rw [hL] at hl h1 h2 hN ⊢
 obtain ⟨s,hs⟩:∃ s:ByteArray,s=⟨L.toArray⟩:=⟨_,rfl⟩
 have hsl:s.data.toList=L:=by rw [hs]
 have hsz:s.size=L.length:=by rw [<- hsl]; simp
 have HSC:Hid (∀ w,Calls _ _ _ w _):=zc (fun w=>zff (s:=s) (w:=w) (by omega))
 rw [hsl,h1] at HSC
 obtain ⟨k,hk⟩:∃ k,(itoaZ q.num).length=k:=⟨_,rfl⟩
 rw [hk] at HSC h2 hN
 have hb1:(k:Int) <= (s.size:Int):=by rw [hsz,h2]; omega
 have HV:Hid (Value.string (s.extract 0 k)=str (itoaZ q.num)):=zc (by rw [str_eq,zdg,hsl,hN])
 rw [show str L=Value.string s by rw [hs]]
 clear hl h1 h2 hL hk hs hsl hsz hN
 go_enter Tryz.func82,Tryz.ntmps82
 go_wp2_with fail
 refine zf (HSC.out _) ?_
 rintro e w1 ⟨rfl,hd1⟩
 go_wp2_with fail
 go_ret
 exact ⟨by rw [<- HV.out]; rfl,⟨hd1.below _⟩⟩
theorem zn4 {q:Rat} {a:Nat} {w:World} [d:Sz q a] (ha:a <= 2 ^ 30):Calls Tryz.prog 83 #[str (zad q)] w (PRet w (str (zad (q.den:Rat)))):=by
 have hl:=zdu d
 obtain ⟨h1,h2⟩:=zfY q
 have hN:q.den ≠ 1 -> (zad q).drop ((itoaZ q.num).length+1)=Lib.decDigits q.den:=fun h=>by
  unfold zad; rw [if_neg h,<- List.drop_drop,List.drop_left]; rfl
 rw [zfp]
 obtain ⟨L,hL⟩:∃ L,zad q=L:=⟨_,rfl⟩
 rw [hL] at hl h1 h2 hN ⊢
 obtain ⟨s,hs⟩:∃ s:ByteArray,s=⟨L.toArray⟩:=⟨_,rfl⟩
 have hsl:s.data.toList=L:=by rw [hs]
 have hsz:s.size=L.length:=by rw [<- hsl]; simp
 have HSC:Hid (∀ w,Calls _ _ _ w _):=zc (fun w=>zff (s:=s) (w:=w) (by omega))
 rw [hsl,h1] at HSC
 obtain ⟨k,hk⟩:∃ k,(itoaZ q.num).length=k:=⟨_,rfl⟩
 rw [hk] at HSC h2 hN
 rw [show str L=Value.string s by rw [hs]]
 by_cases h:q.den=1
 ·rw [if_pos h] at h2
  have he:((k:Int) == (s.size:Int))=true:=by rw [hsz,h2]; simp
  have he2:(k == s.size)=true:=by rw [hsz,h2]; simp
  have HV:Hid (Value.string ⟨#[49]⟩=str (Lib.decDigits q.den)):=zc (by rw [h,zbP (by decide)]; rfl)
  clear hl h1 h2 hL hk hs hsl hsz hN h
  go_enter Tryz.func83,Tryz.ntmps83
  go_wp2_with fail
  refine zf (HSC.out _) ?_
  rintro e w1 ⟨rfl,hd1⟩
  go_wp2_with fail
  go_ret
  exact ⟨by rw [<- HV.out]; rfl,⟨hd1.below _⟩⟩
 ·rw [if_neg h] at h2
  obtain ⟨m,hm⟩:∃ m,k+1=m:=⟨_,rfl⟩
  have he:((k:Int) == (s.size:Int))=false:=by rw [beq_eq_false_iff_ne]; omega
  have he2:(k == s.size)=false:=by rw [beq_eq_false_iff_ne]; omega
  have hadd:IntKind.i64.wrap ((k:Int)+1)=(m:Int):=by rw [zx]; omega
  have i2:(m:Int) <= (s.size:Int):=by omega
  have i3:(0:Int) <= (m:Int):=by omega
  have HV:Hid (Value.string (s.extract m s.size)=str (Lib.decDigits q.den)):=zc (by rw [str_eq,za9,hsl,<- hm,hN h])
  clear hl h1 h2 hL hk hs hsl hsz hN h hm
  go_enter Tryz.func83,Tryz.ntmps83
  go_wp2_with fail
  refine zf (HSC.out _) ?_
  rintro e w1 ⟨rfl,hd1⟩
  go_wp2_with fail
  go_ret
  exact ⟨by rw [<- HV.out]; rfl,⟨hd1.below _⟩⟩
instance sz_neg {q:Rat} {a:Nat} [h:Sz q a]:Sz (-q) a:=⟨by rw [Rat.neg_num,Int.natAbs_neg]; exact h.num,by rw [Rat.neg_den]; exact h.den⟩
theorem znS {p q:Rat} {a b:Nat} {w:World} [d1:Sz p a] [d2:Sz q b] (ha:a <= 2 ^ 15) (hb:b <= 2 ^ 15):
  Calls Tryz.prog 98 #[str (zad p),str (zad q)] w (PRet w (str (zad (p - q)))):=by
 have HA:=zc ha; have HB:=zc hb
 clear ha hb
 go_enter Tryz.func98,Tryz.ntmps98
 go_wp2_with fail
 refine zf (zqu (q:=q) (a:=b) (by have:=HB.out; omega)) ?_
 rintro e w1 ⟨rfl,hx1⟩
 go_wp2_with fail
 refine zf (zn9 (p:=p) (q := -q) HA.out HB.out) ?_
 rintro e w2 ⟨rfl,hx2⟩
 go_wp2_with fail
 go_ret
 exact ⟨by rw [Rat.sub_eq_add_neg]; rfl,zaa⟩
theorem zpm (q:Rat):Rat.divInt (q.den:Int) q.num=q⁻¹:=(Rat.inv_def q).symm
theorem zp2 {q:Rat} {a:Nat} {w:World} [d1:Sz q a] (ha:a <= 2 ^ 15) (h0:q ≠ 0):Calls Tryz.prog 178 #[str (zad q)] w (PRet w (str (zad q⁻¹))):=by
 have HA:=zc ha
 have HN:Hid (q.num ≠ 0):=zc (fun h=>h0 (Rat.num_eq_zero.1 h))
 clear ha h0
 go_enter Tryz.func178,Tryz.ntmps178
 go_wp2_with fail
 refine zf (zbW (q:=q) HA.out) ?_
 rintro e w3 ⟨⟨bn,⟨An,kn,cn⟩⟩,⟨bd,⟨Ad,kd,cd⟩⟩,rfl,zn,zd,hx3⟩
 go_wp2_with fail
 refine zf (zbH (x:=(q.den:Int)) (y:=q.num) HN.out (by have:=HA.out; omega) (by have:=HA.out; omega)) ?_
 rintro e w4 ⟨rfl,hx4⟩
 go_wp2_with fail
 go_ret
 exact ⟨by rw [zpm]; rfl,zaa⟩
theorem zpH {q:Rat} {a:Nat} [h:Sz q a]:Sz q⁻¹ (a+a+1):=by
 rw [<- zpm]; infer_instance
theorem zoU {p q:Rat} {a b:Nat} {w:World} [d1:Sz p a] [d2:Sz q b] (ha:a <= 2 ^ 13) (hb:b <= 2 ^ 13) (h0:q ≠ 0):
  Calls Tryz.prog 80 #[str (zad p),str (zad q)] w (PRet w (str (zad (p / q)))):=by
 have HA:=zc ha; have HB:=zc hb; have H0:=zc h0
 have d3:Sz q⁻¹ (b+b+1):=zpH
 clear ha hb h0
 go_enter Tryz.func80,Tryz.ntmps80
 go_wp2_with fail
 refine zf (zp2 (q:=q) (by have:=HB.out; omega) H0.out) ?_
 rintro e w1 ⟨rfl,hx1⟩
 go_wp2_with fail
 refine zf (zoh (p:=p) (q:=q⁻¹) (by have:=HA.out; omega) (by have:=HB.out; omega)) ?_
 rintro e w2 ⟨rfl,hx2⟩
 go_wp2_with fail
 go_ret
 exact ⟨by rw [Rat.div_def]; rfl,zaa⟩
theorem ziA {p q:Rat} {a b:Nat} {w:World} [d1:Sz p a] [d2:Sz q b] (ha:a <= 2 ^ 15) (hb:b <= 2 ^ 15):
  Calls Tryz.prog 89 #[str (zad p),str (zad q)] w (PRet w (.int .i64 (sgQ (p - q)))):=by
 have HA:=zc ha; have HB:=zc hb
 clear ha hb
 go_enter Tryz.func89,Tryz.ntmps89
 go_wp2_with fail
 refine zf (znS (p:=p) (q:=q) HA.out HB.out) ?_
 rintro e w1 ⟨rfl,hx1⟩
 go_wp2_with fail
 refine zf (zo5 (q:=p - q)) ?_
 rintro e w2 ⟨rfl,hx2⟩
 go_wp2_with fail
 go_ret
 exact ⟨rfl,zaa⟩
def zf6 (q:Rat):Int:=if Fits q then 0 else 4
theorem znL (z:Int):zad (abQ (z:Rat))=Lib.decDigits z.natAbs:=by
 unfold abQ
 rw [Rat.num_intCast]
 split
 ·rw [<- Rat.intCast_neg, zcG]
  unfold itoaZ
  rw [if_neg (show ¬ (-z < 0) by omega),Int.natAbs_neg]
 ·rw [zcG]
  unfold itoaZ
  rw [if_neg (by assumption)]
theorem zm7 {q:Rat} {a:Nat} {w:World} [d1:Sz q a] (ha:a <= 2 ^ 15):Calls Tryz.prog 202 #[str (zad q)] w (PRet w (.int .i64 (zf6 q))):=by
 have HA:=zc ha
 obtain ⟨LN,hLN⟩:∃ L,Lib.decDigits q.num.natAbs=L:=⟨_,rfl⟩
 obtain ⟨LD,hLD⟩:∃ L,Lib.decDigits q.den=L:=⟨_,rfl⟩
 have HN:Hid (zad (abQ ((q.num:Int):Rat))=LN):=zc (by rw [znL,hLN])
 have HD:Hid (zad ((q.den:Nat):Rat)=LD):=zc (by rw [zfp,hLD])
 have HF:Hid (Fits q ↔ LN.length <= 600/\LD.length <= 600):=zc (by unfold Fits; rw [hLN,hLD])
 clear ha hLN hLD
 by_cases h1:600 < LN.length
 ·have h1' : decide ((600 : Int) < (LN.length : Int)) = true := by simp; omega
  have h1'':decide (600 < LN.length)=true:=by simp; omega
  have HV:Hid (zf6 q=4):=zc (if_neg (by rw [HF.out]; omega))
  go_enter Tryz.func202,Tryz.ntmps202
  go_wp2_with fail
  refine zf (zlv (q:=q) (a:=a) (by have:=HA.out; omega)) ?_
  rintro e w1 ⟨rfl,hx1⟩
  go_wp2_with fail
  refine zf (zmA (q:=(q.num:Rat))) ?_
  rw [HN.out]
  rintro e w2 ⟨rfl,hx2⟩
  go_wp2_with fail
  go_ret
  exact ⟨by rw [HV.out]; rfl,zaa⟩
 ·have h1' : decide ((600 : Int) < (LN.length : Int)) = false := by simp; omega
  have h1'':decide (600 < LN.length)=false:=by simp; omega
  by_cases h2:600 < LD.length
  ·have h2' : decide ((600 : Int) < (LD.length : Int)) = true := by simp; omega
   have h2'':decide (600 < LD.length)=true:=by simp; omega
   have HV:Hid (zf6 q=4):=zc (if_neg (by rw [HF.out]; omega))
   go_enter Tryz.func202,Tryz.ntmps202
   go_wp2_with fail
   refine zf (zlv (q:=q) (a:=a) (by have:=HA.out; omega)) ?_
   rintro e w1 ⟨rfl,hx1⟩
   go_wp2_with fail
   refine zf (zmA (q:=(q.num:Rat))) ?_
   rw [HN.out]
   rintro e w2 ⟨rfl,hx2⟩
   go_wp2_with fail
   refine zf (zn4 (q:=q) (a:=a) (by have:=HA.out; omega)) ?_
   rw [HD.out]
   rintro e w3 ⟨rfl,hx3⟩
   go_wp2_with fail
   go_ret
   exact ⟨by rw [HV.out]; rfl,zaa⟩
  ·have h2' : decide ((600 : Int) < (LD.length : Int)) = false := by simp; omega
   have h2'':decide (600 < LD.length)=false:=by simp; omega
   have HV:Hid (zf6 q=0):=zc (if_pos (by rw [HF.out]; omega))
   go_enter Tryz.func202,Tryz.ntmps202
   go_wp2_with fail
   refine zf (zlv (q:=q) (a:=a) (by have:=HA.out; omega)) ?_
   rintro e w1 ⟨rfl,hx1⟩
   go_wp2_with fail
   refine zf (zmA (q:=(q.num:Rat))) ?_
   rw [HN.out]
   rintro e w2 ⟨rfl,hx2⟩
   go_wp2_with fail
   refine zf (zn4 (q:=q) (a:=a) (by have:=HA.out; omega)) ?_
   rw [HD.out]
   rintro e w3 ⟨rfl,hx3⟩
   go_wp2_with fail
   go_ret
   exact ⟨by rw [HV.out]; rfl,zaa⟩
theorem zhe {L:List UInt8} (h1:Digs L) (h2:L.length <= 600):dl (zac L) <= 2 ^ 24:=
 zo (zba (k:=L.length) (Nat.lt_of_lt_of_le (zbc h1) (Nat.pow_le_pow_left (by unfold B9; decide) _))) (by omega)
theorem zfK:∀ (l:List UInt8),Lib.indexByte l 47=if zas l < l.length then (zas l:Int) else -1
 | []=>rfl
 | b :: l=>by
  have ih:=zfK l
  have hle:zas l <= l.length:=by unfold zas; exact (List.takeWhile_sublist _).length_le
  unfold Lib.indexByte
  by_cases hb:b=47
  ·subst hb
   have:zas (47 :: l)=0:=rfl
   rw [this]; simp
  ·have hs:zas (b :: l)=zas l+1:=by
    unfold zas
    rw [List.takeWhile_cons_of_pos (by simpa using hb),List.length_cons]
   have hbb:(b == 47)=false:=by simpa using hb
   rw [hs,hbb,ih,List.length_cons]
   by_cases h:zas l < l.length
   ·rw [if_pos h, if_pos (show zas l + 1 < l.length + 1 by omega)]
    have:((zas l:Int) == -1)=false:=by rw [beq_eq_false_iff_ne]; omega
    rw [this]
    simp
   ·rw [if_neg h, if_neg (show ¬ zas l + 1 < l.length + 1 by omega)]
    simp
theorem ziw {l:List UInt8}:cut1 l 47=if zas l < l.length then (l.take (zas l),l.drop (zas l+1),true) else (l,[],false):=by
 unfold cut1
 rw [zfK]
 by_cases h:zas l < l.length
 ·simp only [if_pos h]
  rw [if_neg (show ¬ ((zas l:Int) < 0) by omega)]
  simp
 ·simp only [if_neg h]
  rfl
theorem zbO {l:List UInt8} {w:World} (hl:l.length < 2 ^ 63):Calls Tryz.prog 76 #[.string ⟨l.toArray⟩] w (PRet w (.bool (decL l))):=by
 refine zf (zhg (s:=⟨l.toArray⟩) (by show l.toArray.size < _; simpa using hl)) ?_
 rintro e w' ⟨rfl,hd⟩
 exact ⟨rfl,⟨hd.below _⟩⟩
theorem zdt:∀ {l:List UInt8},zas l < l.length -> l=l.take (zas l) ++ 47 :: l.drop (zas l+1)
 | [],h=>by simp at h
 | b :: l,h=>by
  by_cases hb:b=47
  ·subst hb; rfl
  ·have hs:zas (b :: l)=zas l+1:=by
    unfold zas
    rw [List.takeWhile_cons_of_pos (by simpa using hb),List.length_cons]
   rw [hs] at h ⊢
   have ih:=zdt (l:=l) (by rw [List.length_cons] at h; omega)
   rw [List.take_succ_cons,List.drop_succ_cons,List.cons_append,<- ih]
theorem ziF {s:ByteArray} {l:List UInt8} (h:s.data.toList=l):s=⟨l.toArray⟩:=by
 subst h; rfl
theorem zkL {l:List UInt8} {w:World} (hl:l.length < 2 ^ 63):Calls Tryz.prog 11 #[.string ⟨l.toArray⟩] w (PRet w (.int .i64 (readE l))):=by
 obtain ⟨P,hP⟩:∃ P,Lib.trimPrefix l [45]=P:=⟨_,rfl⟩
 obtain ⟨k,hk⟩:∃ k,zas P=k:=⟨_,rfl⟩
 obtain ⟨m,hm⟩:∃ m,k+1=m:=⟨_,rfl⟩
 have hkl:k <= P.length:=by rw [<- hk]; unfold zas; exact (List.takeWhile_sublist _).length_le
 have hcut:=ziw (l:=P)
 rw [hk] at hcut
 obtain ⟨N,hN⟩:∃ N,rNum l=N:=⟨_,rfl⟩
 obtain ⟨D,hD⟩:∃ D,rDen l=D:=⟨_,rfl⟩
 obtain ⟨t,ht⟩:∃ t,rCut l=t:=⟨_,rfl⟩
 obtain ⟨g,hg⟩:∃ g,rNeg l=g:=⟨_,rfl⟩
 have hNk:N=P.take k:=by
  rw [<- hN]; unfold rNum; rw [hP,hcut]
  split
  ·rfl
  ·show P=_; rw [List.take_of_length_le (by omega)]
 have hDk:t=true -> D=P.drop m/\k < P.length:=by
  rw [<- hD,<- ht]; unfold rDen rCut; rw [hP,hcut]
  split
  ·rename_i h; exact fun _=>⟨by rw [<- hm],h⟩
  ·intro h; cases h
 have htk:t=false -> k=P.length/\D=[]:=by
  rw [<- hD,<- ht]; unfold rDen rCut; rw [hP,hcut]
  split
  ·intro h; cases h
  ·exact fun _=>⟨by omega,rfl⟩
 have hPl:P.length <= l.length:=by
  rw [<- hP]; unfold Lib.trimPrefix; split
  ·rw [List.length_drop]; omega
  ·exact zv _
 rw [show readE l=rE N D t g by unfold readE; rw [hN,hD,ht,hg]]
 have HNL:Hid (N.length < 2 ^ 63):=zc (by rw [hNk,List.length_take]; omega)
 have HDL:Hid (D.length < 2 ^ 63):=zc (by
  cases t
  ·rw [(htk rfl).2]; simp
  ·rw [(hDk rfl).1,List.length_drop]; omega)
 obtain ⟨r,hr⟩:∃ r:ByteArray,r.data.toList=P:=⟨⟨P.toArray⟩,rfl⟩
 have hrs:r.size=P.length:=by rw [<- hr]; simp
 have HSC:Hid (∀ w,Calls _ _ _ w _):=zc (fun w=>zff (s:=r) (w:=w) (by omega))
 rw [hr,hk] at HSC
 have hsN:r.extract 0 k=⟨N.toArray⟩:=ziF (by rw [zdg,hr,hNk])
 have hsD:t=true -> r.extract m r.size=⟨D.toArray⟩:=fun h=>ziF (by rw [za9,hr,(hDk h).1])
 have hNlen:N.length=k:=by rw [hNk,List.length_take]; omega
 have i1:(k:Int) <= (r.size:Int):=by omega
 have i3:(0:Int) <= (m:Int):=by omega
 obtain ⟨j,hj⟩:∃ j:Int,(r.size:Int) - (k:Int)=j:=⟨_,rfl⟩
 have hsub:IntKind.i64.wrap ((r.size:Int) - (k:Int))=j:=by rw [zx]; omega
 have hsub2:IntKind.i64.wrap (j - 1)=j - 1:=by rw [zx]; omega
 obtain ⟨s,hs⟩:∃ s:ByteArray,s=⟨l.toArray⟩:=⟨_,rfl⟩
 have hsl:s.data.toList=l:=by rw [hs]
 have hss:s.size=l.length:=by rw [<- hsl]; simp
 rw [<- hs]
 have HLT:Hid (t=true -> (N.length:Int)=(k:Int)/\(D.length:Int)=j - 1):=zc (fun h=>by
  have h1:=hDk h
  have:D.length=P.length - m:=by rw [h1.1,List.length_drop]
  omega)
 have HLF:Hid (t=false -> (N.length:Int)=(k:Int)/\(D.length:Int)=0/\j=0):=zc (fun h=>by
  have h1:=htk h
  have:D.length=0:=by rw [h1.2]; rfl
  omega)
 have HFT:Hid (t=true -> r.data.toList=fracL false N D true):=zc (fun h=>by
  have h1:=hDk h
  have h2:=zdt (l:=P) (by rw [hk]; exact h1.2)
  rw [hk,hm] at h2
  rw [hr,h2]
  unfold fracL
  rw [hNk,h1.1]
  simp)
 have hcell:g=false -> (s.size=0 ∨ ∃ c l2,s.data.toList=c :: l2/\c ≠ 45)/\r=s:=fun h=>by
  subst h
  constructor
  ·cases hl2 : l with
   | nil=>left; rw [hss,hl2]; rfl
   | cons c l2=>
    right
    refine ⟨c,l2,by rw [hsl,hl2],?_⟩
    rintro rfl
    rw [hl2] at hg
    unfold rNeg Lib.hasPrefix at hg
    simp at hg
  ·have:Lib.trimPrefix l [45]=l:=by
    unfold Lib.trimPrefix
    rw [if_neg]
    show ¬ (rNeg l=true)
    rw [hg]; decide
   have h1:=ziF (s:=r) (l:=l) (by rw [hr,<- hP,this])
   rw [h1,hs]
 cases g
 ·obtain ⟨hce, hrs2⟩ := hcell rfl
  subst hrs2
  rcases hce with hemp | ⟨c,l2,hl2,hc45⟩
  ·have hgt : decide ((0 : Int) < (r.size : Int)) = false := by rw [hemp]; rfl
   have hgt2:decide (0 < r.size)=false:=by rw [hemp]; rfl
   have hgt':¬ (0:Int) < (r.size:Int):=by omega
   cases t
   ·have hkr : decide ((k : Int) < (r.size : Int)) = false := by have := htk rfl; simp; omega
    have hkr2:decide (k < r.size)=false:=by have:=htk rfl; simp; omega
    have hkr':¬ (k:Int) < (r.size:Int):=by have:=htk rfl; omega
    have HLEN:Hid ((N.length:Int)=(k:Int)/\(D.length:Int)=0/\j=0):=zc (HLF.out rfl)
    have HEMP:Hid (decL N=false):=zc (by
     have:N=[]:=List.eq_nil_of_length_eq_zero (by omega)
     rw [this]; rfl)
    clear hP hk hm hkl hcut hN hD ht hg hNk hDk htk hPl hr hrs hsD hNlen hj hs hsl hss hcell hl
    go_enter Tryz.func11,Tryz.ntmps11
    go_wp2_with fail
    refine zf (HSC.out _) ?_
    rintro e w1 ⟨rfl,hd1⟩
    have hx1:Nxt w w1:=⟨hd1.below _⟩
    clear hd1
    go_wp2_with fail
    refine zf (zbO HNL.out) ?_
    rw [HEMP.out]
    rintro e w2 ⟨rfl,hx2⟩
    go_wp2_with fail
    go_ret
    exact ⟨by rw [rE1a (by rw [HEMP.out]; decide)]; rfl,zaa⟩
   ·exfalso; have:=(hDk rfl).2; omega
  ·obtain ⟨h0, hc⟩ := zcA (s := r) hl2
   have hgt:decide ((0:Int) < (r.size:Int))=true:=by simp; omega
   have h0':(0:Int) < (r.size:Int):=by omega
   have hne:((c.toNat:Int) == 45)=false:=by
    have:c.toNat ≠ 45:=fun h=>hc45 (UInt8.toNat_inj.1 h)
    rw [beq_eq_false_iff_ne]; omega
   cases t
   ·have hkr : decide ((k : Int) < (r.size : Int)) = false := by have := htk rfl; simp; omega
    have hkr2:decide (k < r.size)=false:=by have:=htk rfl; simp; omega
    have hkr':¬ (k:Int) < (r.size:Int):=by have:=htk rfl; omega
    have HLEN:Hid ((N.length:Int)=(k:Int)/\(D.length:Int)=0/\j=0):=zc (HLF.out rfl)
    clear hl2 hc45
    clear hP hk hm hkl hcut hN hD ht hg hNk hDk htk hPl hr hrs hsD hNlen hj hs hsl hss hcell hl
    go_enter Tryz.func11,Tryz.ntmps11
    go_wp2_with fail
    refine zf (HSC.out _) ?_
    rintro e w1 ⟨rfl,hd1⟩
    have hx1:Nxt w w1:=⟨hd1.below _⟩
    clear hd1
    go_wp2_with ((go_at_call 76; refine zf (zbO (by first | exact HNL.out | exact HDL.out)) ?_; rintro e w2 ⟨rfl,hx2⟩))
    all_goals try (
     have hE:rE N D false false=1:=by first | exact rE1a (by assumption) | exact rE1b rfl (by assumption) | exact rE1c1 rfl (by assumption) | exact rE1c2 rfl (by assumption) | exact rE1c3 rfl (by assumption)
     go_ret
     exact ⟨by rw [hE]; rfl,zaa⟩)
    all_goals (have hF:Form N D false false:=⟨⟨by assumption,by first | exact Or.inl (by decide) | exact Or.inr (by assumption)⟩,by first | exact Or.inl (by decide) | exact Or.inr ⟨by assumption,by assumption⟩⟩)
    all_goals try (
     have hE:rE N D false false=4:=rE4 hF (by have:=HLEN.out; omega)
     go_ret
     exact ⟨by rw [hE]; rfl,zaa⟩)
    all_goals (
     have hE:rE N D false false=0:=rE0 hF (by have:=HLEN.out; omega) (Or.inl (by decide))
     go_ret
     exact ⟨by rw [hE]; rfl,zaa⟩)
   ·obtain ⟨hD1, hkP⟩ := hDk rfl
    have hsD2:=hsD rfl
    have hkr:decide ((k:Int) < (r.size:Int))=true:=by simp; omega
    have hkr2:decide (k < r.size)=true:=by simp; omega
    have hkr':(k:Int) < (r.size:Int):=by omega
    have hadd:IntKind.i64.wrap ((k:Int)+1)=(m:Int):=by rw [zx]; omega
    have i2:(m:Int) <= (r.size:Int):=by omega
    have HLEN:Hid ((N.length:Int)=(k:Int)/\(D.length:Int)=j - 1):=zc (HLT.out rfl)
    have HFR:=zc (HFT.out rfl)
    clear hl2 hc45 hD1 hkP
    clear hP hk hm hkl hcut hN hD ht hg hNk hDk htk hPl hr hrs hsD hNlen hj hs hsl hss hcell hl
    go_enter Tryz.func11,Tryz.ntmps11
    go_wp2_with fail
    refine zf (HSC.out _) ?_
    rintro e w1 ⟨rfl,hd1⟩
    have hx1:Nxt w w1:=⟨hd1.below _⟩
    clear hd1
    go_wp2_with ((go_at_call 76; refine zf (zbO (by first | exact HNL.out | exact HDL.out)) ?_; rintro e w2 ⟨rfl,hx2⟩))
    all_goals try (
     have hE:rE N D true false=1:=by first | exact rE1a (by assumption) | exact rE1b rfl (by assumption) | exact rE1c1 rfl (by assumption) | exact rE1c2 rfl (by assumption) | exact rE1c3 rfl (by assumption)
     go_ret
     exact ⟨by rw [hE]; rfl,zaa⟩)
    all_goals (have hF:Form N D true false:=⟨⟨by assumption,by first | exact Or.inl (by decide) | exact Or.inr (by assumption)⟩,by first | exact Or.inl (by decide) | exact Or.inr ⟨by assumption,by assumption⟩⟩)
    all_goals try (
     have hE:rE N D true false=4:=rE4 hF (by have:=HLEN.out; omega)
     go_ret
     exact ⟨by rw [hE]; rfl,zaa⟩)
    have hL:N.length <= 600/\D.length <= 600:=by have:=HLEN.out; omega
    have hdN:Digs N:=zbB hF.1.1
    have hF2:decL D=true/\(D == [48])=false/\(D == [49])=false:=by rcases hF.2 with h | h; exact absurd rfl h; exact h
    have hdD:Digs D:=zbB hF2.1
    have hD0:zac D ≠ 0:=zdZ hF2.1 (by simpa using hF2.2.1)
    have HB1:=zc (zhe hdN hL.1)
    have HB2:=zc (zhe hdD hL.2)
    have HF:=zc hF; have HL:=zc hL; have HD0:=zc hD0
    have HPT:Hid (∀ w,Calls _ _ _ w _):=zc (fun w=>zej (s:=r) (b:=false) (t:=true) (N:=N) (D:=D) (w:=w) HFR.out hdN (fun _=>hdD) (by omega) (by omega))
    clear hF hL hdN hF2 hdD hD0
    refine zf (HPT.out _) ?_
    rintro e w3 ⟨⟨bn,⟨An,kn,cn⟩⟩,⟨bd,⟨Ad,kd,cd⟩⟩,rfl,zn,zd,hx3⟩
    have zn1:=zn.parts.2
    have zd1:=zd.parts.2
    rw [zaq] at zn1
    simp only [if_true,Int.natAbs_natCast] at zn1 zd1
    have hxw3:Nxt w w3:=zaa
    clear zn zd
    go_wp2_with fail
    refine zf (zd4 (a:=zac N) (b:=zac D) HB1.out HB2.out) ?_
    rintro e w4 ⟨⟨Ag,kg,cg⟩,rfl,hg,hx4⟩
    have hG0:Nat.gcd (zac N) (zac D) ≠ 0:=fun e=>HD0.out (Nat.eq_zero_of_gcd_eq_zero_right e)
    have hE0:Nat.gcd (zac N) (zac D) <= 1 -> rE N D true false=0:=fun h=>rE0 HF.out HL.out (Or.inr h)
    have hE1:1 < Nat.gcd (zac N) (zac D) -> rE N D true false=1:=fun h=>zlo HF.out HL.out rfl h
    generalize Nat.gcd (zac N) (zac D)=G at *
    have hkg:=hg.len
    by_cases hone:G=1
    ·have HE := zc (hE0 (by omega))
     have hk1:kg=1:=by have:=zdX hone; simp only at hkg; omega
     subst hk1
     obtain ⟨ad,rfl,hc⟩:=zb4 (show DigIs w4 (.slice Ag 1 cg) G from hg) rfl
     rw [hone] at hc
     have hc2:w4.cell? ad=some (.int .i64 ((1:Nat):Int)):=by rw [show ad.add 0=ad by unfold Addr.add; simp] at hc; exact hc
     clear hE0 hE1 hone hG0 hkg
     go_wp2_with fail
     go_ret
     exact ⟨by rw [HE.out]; rfl,zaa⟩
    ·have HE := zc (hE1 (by omega))
     by_cases hk1:kg=1
     ·subst hk1
      obtain ⟨ad,rfl,hc⟩:=zb4 (show DigIs w4 (.slice Ag 1 cg) G from hg) rfl
      have hc2:w4.cell? ad=some (.int .i64 (G:Int)):=by rw [show ad.add 0=ad by unfold Addr.add; simp] at hc; exact hc
      have hq1':((G:Int) != 1)=true:=by rw [bne_iff_ne]; omega
      have hq1'':((G:Int) == 1)=false:=by rw [beq_eq_false_iff_ne]; omega
      clear hE0 hE1 hone hG0 hkg
      go_wp2_with fail
      go_ret
      exact ⟨by rw [HE.out]; rfl,zaa⟩
     ·have hk1' : ((kg : Int) != 1) = true := by rw [bne_iff_ne]; omega
      have hk1'':((kg:Int) == 1)=false:=by rw [beq_eq_false_iff_ne]; omega
      clear hE0 hE1 hone hG0 hkg hk1
      go_wp2_with fail
      go_ret
      exact ⟨by rw [HE.out]; rfl,zaa⟩
 ·have hl0:∃ l2,l=45 :: l2:=by
   cases l with
   | nil=>unfold rNeg Lib.hasPrefix at hg; cases hg
   | cons c l2=>exact ⟨l2,by unfold rNeg Lib.hasPrefix at hg; simp at hg; rw [hg]⟩
  obtain ⟨l2,hl2⟩:=hl0
  obtain ⟨h0,hc⟩:=zcA (s:=s) (c:=45) (l:=l2) (by rw [hsl,hl2])
  have hPl2:P=l2:=by rw [<- hP,hl2]; rfl
  have hr':s.extract 1 s.size=r:=by
   have h1:=ziF (s:=s.extract 1 s.size) (l:=l2) (by rw [za9,hsl,hl2]; rfl)
   have h2:=ziF (s:=r) (l:=l2) (by rw [hr,hPl2])
   rw [h1,h2]
  have hgt:decide ((0:Int) < (s.size:Int))=true:=by simp; omega
  have h0':(0:Int) < (s.size:Int):=by omega
  have heq:(((45:UInt8).toNat:Int) == 45)=true:=rfl
  have hb1:(1:Int) <= (s.size:Int):=by omega
  cases t
  ·have hkr : decide ((k : Int) < (r.size : Int)) = false := by have := htk rfl; simp; omega
   have hkr2:decide (k < r.size)=false:=by have:=htk rfl; simp; omega
   have hkr':¬ (k:Int) < (r.size:Int):=by have:=htk rfl; omega
   have HLEN:Hid ((N.length:Int)=(k:Int)/\(D.length:Int)=0/\j=0):=zc (HLF.out rfl)
   clear hP hk hm hkl hcut hN hD ht hg hNk hDk htk hPl hr hrs hsD hNlen hj hs hsl hss hl2 hPl2 hcell hl
   go_enter Tryz.func11,Tryz.ntmps11
   go_wp2_with fail
   refine zf (HSC.out _) ?_
   rintro e w1 ⟨rfl,hd1⟩
   have hx1:Nxt w w1:=⟨hd1.below _⟩
   clear hd1
   go_wp2_with ((go_at_call 76; refine zf (zbO (by first | exact HNL.out | exact HDL.out)) ?_; rintro e w2 ⟨rfl,hx2⟩))
   all_goals try (
    have hE:rE N D false true=1:=by first | exact rE1a (by assumption) | exact rE1b rfl (by assumption) | exact rE1c1 rfl (by assumption) | exact rE1c2 rfl (by assumption) | exact rE1c3 rfl (by assumption)
    go_ret
    exact ⟨by rw [hE]; rfl,zaa⟩)
   all_goals (have hF:Form N D false true:=⟨⟨by assumption,by first | exact Or.inl (by decide) | exact Or.inr (by assumption)⟩,by first | exact Or.inl (by decide) | exact Or.inr ⟨by assumption,by assumption⟩⟩)
   all_goals try (
    have hE:rE N D false true=4:=rE4 hF (by have:=HLEN.out; omega)
    go_ret
    exact ⟨by rw [hE]; rfl,zaa⟩)
   all_goals (
    have hE:rE N D false true=0:=rE0 hF (by have:=HLEN.out; omega) (Or.inl (by decide))
    go_ret
    exact ⟨by rw [hE]; rfl,zaa⟩)
  ·obtain ⟨hD1, hkP⟩ := hDk rfl
   have hsD2:=hsD rfl
   have hkr:decide ((k:Int) < (r.size:Int))=true:=by simp; omega
   have hkr2:decide (k < r.size)=true:=by simp; omega
   have hkr':(k:Int) < (r.size:Int):=by omega
   have hadd:IntKind.i64.wrap ((k:Int)+1)=(m:Int):=by rw [zx]; omega
   have i2:(m:Int) <= (r.size:Int):=by omega
   have HLEN:Hid ((N.length:Int)=(k:Int)/\(D.length:Int)=j - 1):=zc (HLT.out rfl)
   have HFR:=zc (HFT.out rfl)
   clear hD1 hkP
   clear hP hk hm hkl hcut hN hD ht hg hNk hDk htk hPl hr hrs hsD hNlen hj hs hsl hss hl2 hPl2 hcell hl
   go_enter Tryz.func11,Tryz.ntmps11
   go_wp2_with fail
   refine zf (HSC.out _) ?_
   rintro e w1 ⟨rfl,hd1⟩
   have hx1:Nxt w w1:=⟨hd1.below _⟩
   clear hd1
   go_wp2_with ((go_at_call 76; refine zf (zbO (by first | exact HNL.out | exact HDL.out)) ?_; rintro e w2 ⟨rfl,hx2⟩))
   all_goals try (
    have hE:rE N D true true=1:=by first | exact rE1a (by assumption) | exact rE1b rfl (by assumption) | exact rE1c1 rfl (by assumption) | exact rE1c2 rfl (by assumption) | exact rE1c3 rfl (by assumption)
    go_ret
    exact ⟨by rw [hE]; rfl,zaa⟩)
   all_goals (have hF:Form N D true true:=⟨⟨by assumption,by first | exact Or.inl (by decide) | exact Or.inr (by assumption)⟩,by first | exact Or.inl (by decide) | exact Or.inr ⟨by assumption,by assumption⟩⟩)
   all_goals try (
    have hE:rE N D true true=4:=rE4 hF (by have:=HLEN.out; omega)
    go_ret
    exact ⟨by rw [hE]; rfl,zaa⟩)
   have hL:N.length <= 600/\D.length <= 600:=by have:=HLEN.out; omega
   have hdN:Digs N:=zbB hF.1.1
   have hF2:decL D=true/\(D == [48])=false/\(D == [49])=false:=by rcases hF.2 with h | h; exact absurd rfl h; exact h
   have hdD:Digs D:=zbB hF2.1
   have hD0:zac D ≠ 0:=zdZ hF2.1 (by simpa using hF2.2.1)
   have HB1:=zc (zhe hdN hL.1)
   have HB2:=zc (zhe hdD hL.2)
   have HF:=zc hF; have HL:=zc hL; have HD0:=zc hD0
   have HPT:Hid (∀ w,Calls _ _ _ w _):=zc (fun w=>zej (s:=r) (b:=false) (t:=true) (N:=N) (D:=D) (w:=w) HFR.out hdN (fun _=>hdD) (by omega) (by omega))
   clear hF hL hdN hF2 hdD hD0
   refine zf (HPT.out _) ?_
   rintro e w3 ⟨⟨bn,⟨An,kn,cn⟩⟩,⟨bd,⟨Ad,kd,cd⟩⟩,rfl,zn,zd,hx3⟩
   have zn1:=zn.parts.2
   have zd1:=zd.parts.2
   rw [zaq] at zn1
   simp only [if_true,Int.natAbs_natCast] at zn1 zd1
   have hxw3:Nxt w w3:=zaa
   clear zn zd
   go_wp2_with fail
   refine zf (zd4 (a:=zac N) (b:=zac D) HB1.out HB2.out) ?_
   rintro e w4 ⟨⟨Ag,kg,cg⟩,rfl,hg,hx4⟩
   have hG0:Nat.gcd (zac N) (zac D) ≠ 0:=fun e=>HD0.out (Nat.eq_zero_of_gcd_eq_zero_right e)
   have hE0:Nat.gcd (zac N) (zac D) <= 1 -> rE N D true true=0:=fun h=>rE0 HF.out HL.out (Or.inr h)
   have hE1:1 < Nat.gcd (zac N) (zac D) -> rE N D true true=1:=fun h=>zlo HF.out HL.out rfl h
   generalize Nat.gcd (zac N) (zac D)=G at *
   have hkg:=hg.len
   by_cases hone:G=1
   ·have HE := zc (hE0 (by omega))
    have hk1:kg=1:=by have:=zdX hone; simp only at hkg; omega
    subst hk1
    obtain ⟨ad,rfl,hc⟩:=zb4 (show DigIs w4 (.slice Ag 1 cg) G from hg) rfl
    rw [hone] at hc
    have hc2:w4.cell? ad=some (.int .i64 ((1:Nat):Int)):=by rw [show ad.add 0=ad by unfold Addr.add; simp] at hc; exact hc
    clear hE0 hE1 hone hG0 hkg
    go_wp2_with fail
    go_ret
    exact ⟨by rw [HE.out]; rfl,zaa⟩
   ·have HE := zc (hE1 (by omega))
    by_cases hk1:kg=1
    ·subst hk1
     obtain ⟨ad,rfl,hc⟩:=zb4 (show DigIs w4 (.slice Ag 1 cg) G from hg) rfl
     have hc2:w4.cell? ad=some (.int .i64 (G:Int)):=by rw [show ad.add 0=ad by unfold Addr.add; simp] at hc; exact hc
     have hq1':((G:Int) != 1)=true:=by rw [bne_iff_ne]; omega
     have hq1'':((G:Int) == 1)=false:=by rw [beq_eq_false_iff_ne]; omega
     clear hE0 hE1 hone hG0 hkg
     go_wp2_with fail
     go_ret
     exact ⟨by rw [HE.out]; rfl,zaa⟩
    ·have hk1' : ((kg : Int) != 1) = true := by rw [bne_iff_ne]; omega
     have hk1'':((kg:Int) == 1)=false:=by rw [beq_eq_false_iff_ne]; omega
     clear hE0 hE1 hone hG0 hkg hk1
     go_wp2_with fail
     go_ret
     exact ⟨by rw [HE.out]; rfl,zaa⟩
end Go.Proofs.YtombhkpniddceaaGreatDoor
