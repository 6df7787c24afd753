import Derived.Test.YtombhkpniddceaaGreatDoorM47
set_option maxHeartbeats 51200000
set_option maxRecDepth 100000
set_option synthInstance.maxSize 20000
set_option linter.all false
namespace Go.Proofs.YtombhkpniddceaaGreatDoor
open List renaming setIfInBounds_toArray -> zs0,set_cons_zero -> zs1,set_cons_succ -> zs2
open Go.RowKit
theorem zoI {a b:Int} (hb:0 < b):(Rat.divInt a b).num * b=a * ((Rat.divInt a b).den:Int):=by
 have h0:(Rat.divInt a b).den ≠ 0:=(Rat.divInt a b).den_nz
 have h:=Rat.num_divInt_den (Rat.divInt a b)
 exact (Rat.divInt_eq_divInt_iff (by omega) (by omega)).1 h
theorem zoM {a b:Int} (hb:0 < b):(Rat.divInt a b).num / ((Rat.divInt a b).den:Int)=a / b:=by
 have h:=zoI (a:=a) hb
 have hd:(0:Int) < ((Rat.divInt a b).den:Int):=by have:=(Rat.divInt a b).den_nz; omega
 generalize (Rat.divInt a b).num=n at *
 generalize ((Rat.divInt a b).den:Int)=d at *
 have key:∀ m:Int,m <= n / d ↔ m <= a / b:=fun m=>by
  rw [Int.le_ediv_iff_mul_le hd,Int.le_ediv_iff_mul_le hb]
  constructor
  ·intro h1
   have h2:=Int.mul_le_mul_of_nonneg_right h1 (Int.le_of_lt hb)
   rw [h,show m * d * b=m * b * d by grind] at h2
   exact Int.le_of_mul_le_mul_right h2 hd
  ·intro h1
   have h2:=Int.mul_le_mul_of_nonneg_right h1 (Int.le_of_lt hd)
   rw [<- h,show m * b * d=m * d * b by grind] at h2
   exact Int.le_of_mul_le_mul_right h2 hb
 exact Int.le_antisymm ((key _).1 (Int.le_refl _)) ((key _).2 (Int.le_refl _))
theorem zod (x:Rat):Rat.divInt x.num (x.den:Int)=x:=Rat.num_divInt_den x
theorem zoN {n d rn rd:Nat} (hc:Nat.Coprime n d) (hd0:0 < d) (hn:zb5 n rn) (hd:zb5 d rd) (h:rn * rn * d=n * (rd * rd)):rn * rn=n/\rd * rd=d:=by
 have h1:rn * rn * d <= n * d:=Nat.mul_le_mul_right _ hn.1
 have h2:n * (rd * rd) <= n * d:=Nat.mul_le_mul_left _ hd.1
 have d1:d ∣ rd * rd:=hc.symm.dvd_of_dvd_mul_left ⟨rn * rn,by rw [<- h]; exact zw _ _⟩
 have p1:0 < rd * rd:=by
  rcases Nat.eq_zero_or_pos rd with h0 | h0
  ·subst h0; have:=hd.2; omega
  ·exact Nat.mul_pos h0 h0
 have e2:rd * rd=d:=Nat.le_antisymm hd.1 (Nat.le_of_dvd p1 d1)
 rw [e2] at h
 exact ⟨Nat.eq_of_mul_eq_mul_right hd0 h,e2⟩
theorem zow {x:Rat} {rn rd:Nat} (h0:0 <= x.num) (hn:zb5 x.num.natAbs rn) (hd:zb5 x.den rd):Rat.divInt rn rd * Rat.divInt rn rd=x ↔ ((rn:Int) * rn=x.num/\(rd:Int) * rd=x.den):=by
 have p0:0 < rd:=by
  rcases Nat.eq_zero_or_pos rd with h | h
  ·subst h; have:=hd.2; have:=x.den_pos; omega
  ·exact h
 have p1:(0:Int) < (rd:Int) * rd:=Int.mul_pos (by omega) (by omega)
 have p2:(0:Int) < (x.den:Int):=by have:=x.den_pos; omega
 have e:Rat.divInt rn rd * Rat.divInt rn rd=Rat.divInt ((rn:Int) * rn) ((rd:Int) * rd):=Rat.divInt_mul_divInt _ _
 rw [e]
 constructor
 ·intro h
  rw [<- zod x] at h
  have h1:=(Rat.divInt_eq_divInt_iff (by omega) (by omega)).1 h
  have h2:rn * rn * x.den=x.num.natAbs * (rd * rd):=by
   apply Int.ofNat.inj
   show (((rn * rn * x.den:Nat)):Int)=((x.num.natAbs * (rd * rd):Nat):Int)
   rw [Int.natCast_mul,Int.natCast_mul,Int.natCast_mul,Int.natCast_mul,h1,Int.natAbs_of_nonneg h0]
  obtain ⟨a,b⟩:=zoN x.reduced x.den_pos hn hd h2
  constructor
  ·have := congrArg (Nat.cast (R := Int)) a
   rw [Int.natCast_mul,Int.natAbs_of_nonneg h0] at this
   exact this
  ·have := congrArg (Nat.cast (R := Int)) b
   rw [Int.natCast_mul] at this
   exact this
 ·rintro ⟨a, b⟩
  rw [a,b]
  exact zod x
theorem zou {q:Rat} {a:Nat} {w:World} [d:Sz q a] (ha:a <= 2 ^ 30):Calls Tryz.prog 180 #[str (zad q)] w (PRet w (.bool (decide (q.den=1)))):=by
 have hl:=zdu d
 obtain ⟨h1,h2⟩:=zfY q
 obtain ⟨L,hL⟩:∃ L,zad q=L:=⟨_,rfl⟩
 rw [hL] at hl h1 h2 ⊢
 have HSC:Hid (∀ w,Calls _ _ _ w _):=zc (fun w=>zff (s:=⟨L.toArray⟩) (w:=w) (by show L.toArray.size < _; simp; omega))
 rw [h1] at HSC
 obtain ⟨k,hk⟩:∃ k,(itoaZ q.num).length=k:=⟨_,rfl⟩
 rw [hk] at HSC h2
 have HB:Hid ((k == L.length)=decide (q.den=1)):=zc (by
  by_cases h:q.den=1
  ·rw [if_pos h] at h2; rw [decide_eq_true h,h2]; simp
  ·rw [if_neg h] at h2; rw [decide_eq_false h,beq_eq_false_iff_ne]; omega)
 have HB2:Hid (((k:Int) == (L.length:Int))=decide (q.den=1)):=zc (by
  rw [<- HB.out]
  by_cases h:k=L.length
  ·rw [h]; simp
  ·rw [show (k == L.length)=false from beq_eq_false_iff_ne.2 h,beq_eq_false_iff_ne]; omega)
 clear hl h1 h2 hL hk
 go_enter Tryz.func180,Tryz.ntmps180
 go_wp2_with fail
 refine zf (HSC.out _) ?_
 rintro e w1 ⟨rfl,hd1⟩
 go_wp2_with fail
 go_ret
 exact ⟨by first | (rw [<- HB2.out]; rfl) | (rw [<- HB.out]; rfl),⟨hd1.below _⟩⟩
theorem zo3 {q:Rat} {a:Nat} {w:World} [d1:Sz q a] (ha:a <= 2 ^ 15):Calls Tryz.prog 86 #[str (zad q)] w (PRet w (str (zad ((q.num / (q.den:Int):Int):Rat)))):=by
 have HA:=zc ha
 have HL1:Hid (dl q.num.natAbs <= 2 ^ 24):=zc (zo (dl_wl d1.num) (by omega))
 have HP:Hid ((0:Int) < (q.den:Int)):=zc (by have:=q.den_nz; omega)
 by_cases h1:q.den=1
 ·have hd : decide (q.den = 1) = true := decide_eq_true h1
  have HV:Hid (zad q=zad ((q.num / (q.den:Int):Int):Rat)):=zc (by
   rw [zcG,h1,show q.num / ((1:Nat):Int)=q.num from Int.ediv_one _]
   unfold zad
   rw [if_pos h1,List.append_nil])
  clear ha h1
  go_enter Tryz.func86,Tryz.ntmps86
  go_wp2_with fail
  refine zf (zou (q:=q) (a:=a) (by have:=HA.out; omega)) ?_
  rw [hd]
  rintro e w1 ⟨rfl,hx1⟩
  go_wp2_with fail
  go_ret
  exact ⟨by rw [<- HV.out]; rfl,zaa⟩
 ·have hd : decide (q.den = 1) = false := decide_eq_false h1
  clear ha h1
  go_enter Tryz.func86,Tryz.ntmps86
  go_wp2_with fail
  refine zf (zou (q:=q) (a:=a) (by have:=HA.out; omega)) ?_
  rw [hd]
  rintro e w1 ⟨rfl,hx1⟩
  go_wp2_with fail
  refine zf (zbW (q:=q) HA.out) ?_
  rintro e w3 ⟨⟨bn,⟨An,kn,cn⟩⟩,⟨bd,⟨Ad,kd,cd⟩⟩,rfl,zn,zd,hx3⟩
  go_wp2_with fail
  refine zf (zpg (x:=q.num) (y:=(q.den:Int)) HL1.out HP.out) ?_
  rintro e w4 ⟨⟨b4,⟨A4,k4,c4⟩⟩,rfl,z4,hx4⟩
  go_wp2_with fail
  refine zf (zd9 (z:=q.num / (q.den:Int)) ?_) ?_
  ·have h1:(q.num / (q.den:Int)).natAbs <= q.num.natAbs+1:=by
    have hp:=HP.out
    by_cases h:q.num < 0
    ·have h2 := Int.ediv_neg_of_neg_of_pos h hp
     have h3:q.num <= q.num / (q.den:Int):=by
      rw [Int.le_ediv_iff_mul_le hp]
      have:=Int.mul_le_mul_of_nonpos_left (show q.num <= 0 by omega) (show (1:Int) <= (q.den:Int) by omega)
      simpa using this
     omega
    ·have h2 := Int.ediv_nonneg (show (0 : Int) <= q.num by omega) (show (0 : Int) <= (q.den : Int) by omega)
     have h3:=Int.ediv_le_self (q.den:Int) (show (0:Int) <= q.num by omega)
     omega
   have h2:=zar h1
   have h3:wl (q.num.natAbs+1) <= a+1:=by
    refine zaf ?_
    have h4:=Nat.lt_of_lt_of_le (zaz q.num.natAbs) (Nat.pow_le_pow_right (by unfold B64; omega) d1.num)
    have h5:B64 ^ a < B64 ^ (a+1):=Nat.pow_lt_pow_right (by unfold B64; omega) (by omega)
    omega
   exact zo (dl_wl (zo h2 h3)) (by have:=HA.out; omega)
  rintro e w5 ⟨rfl,hx5⟩
  go_wp2_with fail
  go_ret
  exact ⟨by rw [zcG]; rfl,zaa⟩
section
open Go.Sort Go.Lib
theorem sq_pow (a:Rat):∀ m:Nat,(a * a) ^ m=a ^ (2 * m)
 | 0=>by rw [Nat.mul_zero,Rat.pow_zero,Rat.pow_zero]
 | m+1=>by rw [Rat.pow_succ,sq_pow a m,show 2 * (m+1)=2 * m+1+1 by omega,Rat.pow_succ,Rat.pow_succ,Rat.mul_assoc]
theorem zps {A O Q:Rat} {k:Nat} (h:O * A ^ k=Q):(if k % 2=1 then O * A else O) * (A * A) ^ (k / 2)=Q:=by
 rw [sq_pow,<- h]
 split
 ·rename_i h1
  rw [Rat.mul_assoc,Rat.mul_comm A,<- Rat.pow_succ,show 2 * (k / 2)+1=k by omega]
 ·rename_i h1
  rw [show 2 * (k / 2)=k by omega]
theorem zoE:zad 1=[49]:=by decide +kernel
class Mu9 (a b:List UInt8) (c:outParam (List UInt8)):Prop where
 out:∀ w:World,Calls Tryz.prog 52 #[str a,str b] w (PRet w (str c))
theorem mu9_o {a b c:List UInt8} {w:World} [h:Mu9 a b c]:Calls Tryz.prog 52 #[str a,str b] w (PRet w (str c)):=h.out w
class Dv9 (a b:List UInt8) (c:outParam (List UInt8)):Prop where
 out:∀ w:World,Calls Tryz.prog 80 #[str a,str b] w (PRet w (str c))
theorem dv9_o {a b c:List UInt8} {w:World} [h:Dv9 a b c]:Calls Tryz.prog 80 #[str a,str b] w (PRet w (str c)):=h.out w
class Cm9 (a b:List UInt8) (c:outParam Int):Prop where
 out:∀ w:World,Calls Tryz.prog 89 #[str a,str b] w (PRet w (.int .i64 c))
def zt (n:Nat):List UInt8:=zad ((n:Int):Rat)
theorem zt0:zt 0=[48]:=by decide +kernel
theorem zt1:zt 1=[49]:=by decide +kernel
theorem zt2:zt 2=[50]:=by decide +kernel
theorem zpf:zad (Rat.divInt 1 2)=[49,47,50]:=by decide +kernel
theorem zsz {n m:Nat} (h:wl n <= m):Sz ((n:Int):Rat) (m+1):=by
 have:Wd (n:Int) m:=⟨by rw [Int.natAbs_natCast]; exact h⟩
 exact ⟨by rw [Rat.num_intCast]; exact Nat.le_succ_of_le this.out,by rw [Rat.den_intCast,za1]; omega⟩
section
variable {w:World} {a b m:Nat}
theorem zp3 (ha:wl a <= m) (hb:wl b <= m) (hm:m <= 2 ^ 14):Calls Tryz.prog 52 #[str (zt a),str (zt b)] w (PRet w (str (zt (a * b)))):=by
 have d1:=zsz ha
 have d2:=zsz hb
 have h:=zoh (p:=((a:Int):Rat)) (q:=((b:Int):Rat)) (a:=m+1) (b:=m+1) (w:=w) (by omega) (by omega)
 rw [<- Rat.intCast_mul,<- Int.natCast_mul] at h
 exact h
theorem zqk (ha:wl a <= m) (hb:wl b <= m) (hm:m <= 2 ^ 14):Calls Tryz.prog 51 #[str (zt a),str (zt b)] w (PRet w (str (zt (a+b)))):=by
 have d1:=zsz ha
 have d2:=zsz hb
 have h:=zn9 (p:=((a:Int):Rat)) (q:=((b:Int):Rat)) (a:=m+1) (b:=m+1) (w:=w) (by omega) (by omega)
 rw [<- Rat.intCast_add,<- Int.natCast_add] at h
 exact h
theorem zqq (hab:b <= a) (ha:wl a <= m) (hb:wl b <= m) (hm:m <= 2 ^ 14):Calls Tryz.prog 98 #[str (zt a),str (zt b)] w (PRet w (str (zt (a - b)))):=by
 have d1:=zsz ha
 have d2:=zsz hb
 have h:=znS (p:=((a:Int):Rat)) (q:=((b:Int):Rat)) (a:=m+1) (b:=m+1) (w:=w) (by omega) (by omega)
 rw [<- Rat.intCast_sub,<- Int.ofNat_sub hab] at h
 exact h
theorem cmpz (a b:Nat):cmpQ ((a:Int):Rat) ((b:Int):Rat)=cmpI (a:Int) (b:Int):=by
 unfold cmpQ
 rw [Rat.num_intCast,Rat.num_intCast,Rat.den_intCast,Rat.den_intCast]
 simp
theorem zqj (ha:wl a <= m) (hb:wl b <= m) (hm:m <= 2 ^ 14):Calls Tryz.prog 89 #[str (zt a),str (zt b)] w (PRet w (.int .i64 (cmpI (a:Int) (b:Int)))):=by
 have d1:=zsz ha
 have d2:=zsz hb
 have h:=ziA (p:=((a:Int):Rat)) (q:=((b:Int):Rat)) (a:=m+1) (b:=m+1) (w:=w) (by omega) (by omega)
 rw [zka,cmpz] at h
 exact h
theorem zq7 (z:Int):((z:Int):Rat)=Rat.divInt z 1:=by
 rw [Rat.divInt_eq_div,show ((1:Int):Rat)=1 from rfl,Rat.div_def,show (1:Rat)⁻¹=1 by decide +kernel,Rat.mul_one]
theorem zpx (n:Nat):((n:Int):Rat) * Rat.divInt 1 2=Rat.divInt (n:Int) 2:=by
 rw [Rat.divInt_eq_div,Rat.divInt_eq_div,Rat.div_def,Rat.div_def,show ((1:Int):Rat)=1 from rfl,Rat.one_mul]
theorem zqg (ha:wl a <= m) (hm:m <= 2 ^ 14):Calls Tryz.prog 179 #[str (zt a)] w (PRet w (str (zad (Rat.divInt (a:Int) 2)))):=by
 have HM:Hid (∀ w,Calls _ _ _ w _):=zc (fun w=>by
  have d1:=zsz ha
  have e1:Wd (1:Int) 1:=⟨zaf (by unfold B64; omega)⟩
  have e2:Wd (2:Int) 1:=⟨zaf (by unfold B64; omega)⟩
  have d2:Sz (Rat.divInt 1 2) 3:=za
  have h:=zoh (p:=((a:Int):Rat)) (q:=Rat.divInt 1 2) (a:=m+1) (b:=3) (w:=w) (by omega) (by omega)
  rw [zpx,zpf] at h
  exact h)
 clear ha hm
 go_enter Tryz.func179,Tryz.ntmps179
 go_wp2_with fail
 refine zf (HM.out _) ?_
 rintro e w1 ⟨rfl,hx1⟩
 go_wp2_with fail
 go_ret
 exact ⟨rfl,zaa⟩
theorem zpI (ha:wl a <= m) (hm:m <= 2 ^ 14):Calls Tryz.prog 86 #[str (zad (Rat.divInt (a:Int) 2))] w (PRet w (str (zt (a / 2)))):=by
 have e1:Wd (a:Int) m:=⟨by rw [Int.natAbs_natCast]; exact ha⟩
 have e2:Wd (2:Int) 1:=⟨zaf (by unfold B64; omega)⟩
 have d2:Sz (Rat.divInt (a:Int) 2) (m+1+1):=za
 have h:=zo3 (q:=Rat.divInt (a:Int) 2) (a:=m+1+1) (w:=w) (by omega)
 rw [zoM (by decide),show ((a:Int) / 2)=((a / 2:Nat):Int) by simp] at h
 exact h
end
end
section
open Go.Sort Go.Lib
theorem zoJ {a b:Int}:cmpI a b <= 0 ↔ a <= b:=by unfold cmpI; split <;> (try split) <;> constructor <;> intro _ <;> omega
theorem zpp:zad ((10:Int):Rat)=[49,48]:=by decide +kernel
section
variable {w:World} {q:Rat} {s K:Nat}
theorem zqa [d:Sz q s] (hs:s <= 2 ^ 8) (hK:K < 32):Calls Tryz.prog 85 #[str (zad q),.int .i64 (K:Int)] w (PRet w (str (zad (q ^ K)))):=by
 have HS:=zc hs; have HK:=zc hK
 have HD:Hid (Sz q s):=zc d
 obtain ⟨Q,hQ⟩:∃ Q,q ^ K=Q:=⟨_,rfl⟩
 have HQ:=zc hQ
 rw [hQ]
 have hn:decide ((K:Int) < 0)=false:=by simp
 clear hs hK hQ d
 go_enter Tryz.func85,Tryz.ntmps85
 go_wp2_with fail
 go_loopg [0,1,5] (0+K) (fun gk s0 s1 s2 wr=>∃ (i k:Nat) (A O:Rat),gk=0+k/\s0=str (zad A)/\s1 = .int .i64 (k:Int)/\s2=str (zad O)/\O * A ^ k=Q/\k * 2 ^ i <= 31/\Sz A (s * 2 ^ i)/\Sz O (1+s * 2 ^ i)/\Nxt w wr)
 case atStart=>exact ⟨0,K,q,1,rfl,rfl,rfl,by rw [zoE] <;> rfl,by rw [Rat.one_mul]; exact HQ.out,by have:=HK.out; omega,by have:=HD.out; rw [Nat.pow_zero,Nat.mul_one]; exact this,⟨by show wl 1 <= _; rw [za1]; omega,by show wl 1 <= _; rw [za1]; omega⟩,zaa⟩
 case round=>
  obtain ⟨i,k,A,O,rfl,rfl,rfl,rfl,hq,hk,dA,dO,hx0⟩:=hrel
  have HQ2:=zc hq
  by_cases h0:k=0
  ·subst h0
   clear hq hk
   go_wp2_with fail
   go_ret
   have:=HQ2.out
   rw [Rat.pow_zero,Rat.mul_one] at this
   exact ⟨by rw [this]; rfl,zaa⟩
  ·have hi:i < 5:=by
    rcases Nat.lt_or_ge i 5 with h | h
    ·exact h
    ·have h1 : 2 ^ 5 <= 2 ^ i := Nat.pow_le_pow_right (by decide) h
     have h2:=Nat.mul_le_mul (show 1 <= k by omega) h1
     omega
   have h2i:2 ^ i <= 16:=zo (Nat.pow_le_pow_right (by decide) (show i <= 4 by omega)) (by decide)
   have hsz:s * 2 ^ i <= 2 ^ 12:=zo (Nat.mul_le_mul HS.out h2i) (by decide)
   have H1:Hid (∀ w,Calls _ _ _ w _):=zc (fun w=>zoh (p:=O) (q:=A) (a:=1+s * 2 ^ i) (b:=s * 2 ^ i) (w:=w) (by omega) (by omega))
   have H2:Hid (∀ w,Calls _ _ _ w _):=zc (fun w=>zoh (p:=A) (q:=A) (a:=s * 2 ^ i) (b:=s * 2 ^ i) (w:=w) (by omega) (by omega))
   have e1:Sz (A * A) (s * 2 ^ (i+1)):=by
    have:Sz (A * A) (s * 2 ^ i+s * 2 ^ i):=za
    rw [Nat.pow_succ,<- Nat.mul_assoc,Nat.mul_two]; exact this
   have e2:Sz (O * A) (1+s * 2 ^ (i+1)):=by
    have:Sz (O * A) (1+s * 2 ^ i+s * 2 ^ i):=za
    rw [Nat.pow_succ,<- Nat.mul_assoc,Nat.mul_two,<- Nat.add_assoc]; exact this
   have e3:Sz O (1+s * 2 ^ (i+1)):=⟨zo dO.num (by rw [Nat.pow_succ,<- Nat.mul_assoc]; omega),zo dO.den (by rw [Nat.pow_succ,<- Nat.mul_assoc]; omega)⟩
   have hst:=zps hq
   obtain ⟨k2,hk2⟩:∃ k2,k / 2=k2:=⟨_,rfl⟩
   have hk3:k2 * 2 ^ (i+1) <= 31:=by
    have h1:k2 * 2 <= k:=by omega
    have h2:=Nat.mul_le_mul_right (2 ^ i) h1
    rw [Nat.pow_succ,zw (2 ^ i),<- Nat.mul_assoc]; omega
   have hp:decide ((0:Int) < (k:Int))=true:=by simp; omega
   have hp':(0:Int) < (k:Int):=by omega
   have hkb:k < 32:=by
    have:=Nat.mul_le_mul_left k (show 1 <= 2 ^ i from Nat.one_le_two_pow)
    omega
   have hdv:Int.tdiv (k:Int) 2=(k2:Int):=by rw [Int.tdiv_eq_ediv_of_nonneg (by omega)]; omega
   have hdv':(k:Int) / 2=(k2:Int):=by rw [<- hk2]; omega
   have hw2:IntKind.i64.wrap (k2:Int)=(k2:Int):=by rw [zx]; omega
   rw [hk2] at hst
   have HE1:=zc e1; have HE2:=zc e2; have HE3:=zc e3
   have HLT:=zc (show k2 < k by omega)
   have HK3:=zc hk3
   by_cases hodd:k % 2=1
   ·rw [if_pos hodd] at hst
    have HST:=zc hst
    have hm1:Int.tmod (k:Int) 2=1:=by rw [Int.tmod_eq_emod_of_nonneg (by omega)]; omega
    have hm2:(k:Int) % 2=1:=by omega
    have hkp:k2+k2+1=k:=by omega
    clear hst hq hk hsz h2i hi h0 e1 e2 e3 hk2 hk3 hodd
    go_wp2_with fail
    refine zf (H1.out _) ?_
    rintro e w1 ⟨rfl,hx1⟩
    go_wp2_with fail
    refine zf (H2.out _) ?_
    rintro e w2 ⟨rfl,hx2⟩
    go_wp2_with fail
    go_roundg (0+k2)
    case rel=>exact ⟨i+1,k2,A * A,O * A,rfl,rfl,rfl,rfl,HST.out,HK3.out,HE1.out,HE2.out,zaa⟩
    case measure=>have:=HLT.out; omega
   ·rw [if_neg hodd] at hst
    have HST:=zc hst
    have hm1:Int.tmod (k:Int) 2=0:=by rw [Int.tmod_eq_emod_of_nonneg (by omega)]; omega
    have hm2:(k:Int) % 2=0:=by omega
    have hkp:k2+k2=k:=by omega
    clear hst hq hk hsz h2i hi h0 e1 e2 e3 hk2 hk3 hodd
    go_wp2_with fail
    refine zf (H2.out _) ?_
    rintro e w2 ⟨rfl,hx2⟩
    go_wp2_with fail
    go_roundg (0+k2)
    case rel=>exact ⟨i+1,k2,A * A,O,rfl,rfl,rfl,rfl,HST.out,HK3.out,HE1.out,HE3.out,zaa⟩
    case measure=>have:=HLT.out; omega
end
end
section
open Go.Sort Go.Lib
section
variable {w:World} {z m r:Nat}
theorem zpo (hz:wl z <= m) (hm:m <= 2 ^ 10) (hr:zb5 z r):Calls Tryz.prog 81 #[str (zt z)] w (PRet w (str (zt r))):=by
 have HZ:=zc hz; have HM:=zc hm; have HR:=zc hr
 have HW:Hid (∀ n,n <= 2 * z+2 -> wl n <= m+2):=zc (fun n hn=>by
  have h1:=zar (show n <= 2 * (z+1) by omega)
  have h2:=zgy 2 (z+1)
  have h3:wl 2 <= 1:=zaf (by unfold B64; omega)
  have h4:wl (z+1) <= m+1:=by
   refine zaf ?_
   have h:=Nat.lt_of_lt_of_le (zaz z) (Nat.pow_le_pow_right (by unfold B64; omega) hz)
   have h5:B64 ^ m < B64 ^ (m+1):=Nat.pow_lt_pow_right (by unfold B64; omega) (by omega)
   omega
  omega)
 have HW2:Hid (∀ a,wl a <= m+2 -> wl (a * a) <= 2 * m+4):=zc (fun a h1=>by have:=zgy a a; omega)
 have HMUL:Hid (∀ a w,a <= 2 * z+2 -> Calls _ _ _ w _):=zc (fun a w h1=>zp3 (a:=a) (b:=a) (m:=2 * m+4) (w:=w) (by have:=HW.out _ h1; omega) (by have:=HW.out _ h1; omega) (by omega))
 have HCMP:Hid (∀ a w,a <= 2 * z+2 -> Calls _ _ _ w _):=zc (fun a w h1=>zqj (a:=a * a) (b:=z) (m:=2 * m+4) (w:=w) (HW2.out _ (HW.out _ h1)) (by omega) (by omega))
 have HDBL:Hid (∀ a w,a <= 2 * z+2 -> Calls _ _ #[str (zt a),.string ⟨#[50]⟩] w _):=zc (fun a w h1=>by
  have h:=zp3 (a:=a) (b:=2) (m:=2 * m+4) (w:=w) (by have:=HW.out _ h1; omega) (by have:wl 2 <= 1:=zaf (by unfold B64; omega); omega) (by omega)
  rw [zt2] at h; exact h)
 have HSUB:Hid (∀ a b w,b <= a -> a <= 2 * z+2 -> Calls _ _ _ w _):=zc (fun a b w h0 h1=>zqq (a:=a) (b:=b) (m:=2 * m+4) (w:=w) h0 (by have:=HW.out _ h1; omega) (by have:=HW.out _ (zo h0 h1); omega) (by omega))
 have HCM1:Hid (∀ a w,a <= 2 * z+2 -> Calls _ _ #[str (zt a),.string ⟨#[49]⟩] w _):=zc (fun a w h1=>by
  have h:=zqj (a:=a) (b:=1) (m:=2 * m+4) (w:=w) (by have:=HW.out _ h1; omega) (by have:wl 1 <= 1:=zaf (by unfold B64; omega); omega) (by omega)
  rw [zt1] at h; exact h)
 have HADD:Hid (∀ a b w,a <= 2 * z+2 -> b <= 2 * z+2 -> Calls _ _ _ w _):=zc (fun a b w h0 h1=>zqk (a:=a) (b:=b) (m:=2 * m+4) (w:=w) (by have:=HW.out _ h0; omega) (by have:=HW.out _ h1; omega) (by omega))
 have HSUM:Hid (∀ a b,a <= 2 * z+2 -> b <= 2 * z+2 -> wl (a+b) <= 2 * m+5):=zc (fun a b h0 h1=>by have:=zhx a b; have:=HW.out _ h0; have:=HW.out _ h1; omega)
 have HHALF:Hid (∀ a b w,a <= 2 * z+2 -> b <= 2 * z+2 -> Calls _ _ _ w _):=zc (fun a b w h0 h1=>zqg (a:=a+b) (m:=2 * m+5) (w:=w) (HSUM.out a b h0 h1) (by omega))
 have HFLO:Hid (∀ a b w,a <= 2 * z+2 -> b <= 2 * z+2 -> Calls _ _ _ w _):=zc (fun a b w h0 h1=>zpI (a:=a+b) (m:=2 * m+5) (w:=w) (HSUM.out a b h0 h1) (by omega))
 clear hz hm hr HW HW2 HSUM
 go_enter Tryz.func81,Tryz.ntmps81
 go_wp2_with fail
 go_loopg [4] (0+(z+1)) (fun gk s2 wr=>∃ i:Nat,gk=0+(z+1 - i)/\s2=str (zt (2 ^ i))/\2 ^ i <= 2 * z+1/\i <= z+1/\Nxt w wr)
 case atStart=>exact ⟨0,rfl,by rw [Nat.pow_zero,zt1] <;> rfl,by rw [Nat.pow_zero]; omega,by omega,zaa⟩
 case round=>
  obtain ⟨i,rfl,rfl,hi,hi2,hx0⟩:=hrel
  have hpw:2 ^ (i+1)=2 ^ i * 2:=Nat.pow_succ ..
  have hip:i < 2 ^ i:=Nat.lt_two_pow_self
  have h1p:1 <= 2 ^ i:=Nat.one_le_two_pow
  obtain ⟨G,hG⟩:∃ G,2 ^ i=G:=⟨_,rfl⟩
  have HG:=zc hG; have HPW:=zc hpw; have HI2:=zc hi2
  rw [hG] at hi hip h1p
  rw [hG]
  have HGZ:=zc (show G <= 2 * z+2 by omega)
  have HIP:=zc hip
  obtain ⟨C,hC⟩:∃ C,cmpI ((G * G:Nat):Int) (z:Int)=C:=⟨_,rfl⟩
  have HC:=zc hC
  have HCC:=HCMP.out G
  rw [hC] at HCC
  have HK1:Hid (∀ w,Calls _ _ _ w _):=zc (fun w=>HMUL.out G w HGZ.out)
  have HK2:Hid (∀ w,Calls _ _ _ w _):=zc (fun w=>HCC w HGZ.out)
  clear HCC
  by_cases hc:C <= 0
  ·have hle:G * G <= z:=by
    have:=zoJ.1 (by rw [hC]; exact hc); omega
   have h2:2 * G <= 2 * z+1:=by
    have:=Nat.mul_le_mul_left G h1p; omega
   have hiz:i < z:=by
    have:=Nat.mul_le_mul_left G h1p; omega
   have HN:=zc (show 2 ^ (i+1) <= 2 * z+1/\i < z from ⟨by rw [hpw,hG]; omega,hiz⟩)
   clear hG hpw hi hi2 hip h1p hC hle h2 hiz
   go_wp2_with fail
   refine zf (HK1.out _) ?_
   rintro e w1 ⟨rfl,hx1⟩
   go_wp2_with fail
   refine zf (HK2.out _) ?_
   rintro e w2 ⟨rfl,hx2⟩
   go_wp2_with fail
   refine zf (HDBL.out G _ HGZ.out) ?_
   rintro e w3 ⟨rfl,hx3⟩
   go_wp2_with fail
   go_roundg (0+(z+1 - (i+1)))
   case rel=>exact ⟨i+1,rfl,by rw [HPW.out,HG.out],HN.out.1,by have:=HN.out.2; omega,zaa⟩
   case measure=>have:=HN.out.2; omega
  ·have hgt:z < G * G:=by
    rcases Nat.lt_or_ge z (G * G) with h | h
    ·exact h
    ·exact absurd (zoJ.2 (show ((G * G:Nat):Int) <= (z:Int) by omega)) (by rw [hC]; exact hc)
   have HGT:=zc hgt
   have hcp:decide (C <= 0)=false:=by simpa using hc
   clear hG hpw hi hi2 hip h1p hC hgt
   go_wp2_with fail
   refine zf (HK1.out _) ?_
   rintro e w1 ⟨rfl,hx1⟩
   go_wp2_with fail
   refine zf (HK2.out _) ?_
   rintro e w2 ⟨rfl,hx2⟩
   have hx12:Nxt w w2:=zaa
   go_wp2_with fail
   clear HK1 HK2 hx0 hx1 hx2 HIP HC HPW HI2 HG hc hcp
   go_loopg [3,4] (0+G) (fun gk s1 s2 wr=>∃ l h:Nat,gk=0+(h - l)/\s1=str (zt l)/\s2=str (zt h)/\l * l <= z/\z < h * h/\h <= 2 * z+2/\Nxt w wr)
   case atStart=>exact ⟨0,G,by rw [Nat.sub_zero],by rw [zt0] <;> rfl,rfl,by omega,HGT.out,HGZ.out,zaa⟩
   case round=>
    obtain ⟨l,h,rfl,rfl,rfl,hl,hh,hb,hx0⟩:=hrel
    have hlh:l < h:=by
     rcases Nat.lt_or_ge l h with h1 | h1
     ·exact h1
     ·have:=Nat.mul_le_mul h1 h1; omega
    have HL:=zc hl; have HH:=zc hh; have HB:=zc hb; have HLH:=zc hlh
    obtain ⟨D,hD⟩:∃ D,h - l=D:=⟨_,rfl⟩
    have HD:=zc hD
    have K1:Hid (∀ w,Calls _ _ _ w _):=zc (fun w=>HSUB.out h l w (by omega) hb)
    rw [hD] at K1
    obtain ⟨C,hC⟩:∃ C,cmpI (D:Int) ((1:Nat):Int)=C:=⟨_,rfl⟩
    have K2:Hid (∀ w,Calls _ _ _ w _):=zc (fun w=>HCM1.out D w (by omega))
    rw [hC] at K2
    by_cases hc:C <= 0
    ·have hcp : decide (0 < C) = false := by simp; omega
     have hd1:D <= 1:=by have:=zoJ.1 (show cmpI (D:Int) ((1:Nat):Int) <= 0 by rw [hC]; exact hc); omega
     have hrl:r=l:=ziS HR.out ⟨HL.out,by rw [show l+1=h by omega]; exact HH.out⟩
     have HRL:=zc hrl
     clear hl hh hb hlh hD hC hd1 hrl
     go_wp2_with fail
     refine zf (K1.out _) ?_
     rintro e w4 ⟨rfl,hx4⟩
     go_wp2_with fail
     refine zf (K2.out _) ?_
     rintro e w5 ⟨rfl,hx5⟩
     go_wp2_with fail
     go_ret
     exact ⟨by rw [HRL.out]; rfl,zaa⟩
    ·have hcp : decide (0 < C) = true := by simp; omega
     have hd1:1 < D:=by
      rcases Nat.lt_or_ge 1 D with h1 | h1
      ·exact h1
      ·exact absurd (zoJ.2 (show (D:Int) <= ((1:Nat):Int) by omega)) (by rw [hC]; exact hc)
     obtain ⟨M,hM⟩:∃ M,(l+h) / 2=M:=⟨_,rfl⟩
     have HMB:=zc (show l < M/\M < h from ⟨by omega,by omega⟩)
     have K3:Hid (∀ w,Calls _ _ _ w _):=zc (fun w=>HADD.out l h w (by omega) hb)
     have K4:Hid (∀ w,Calls _ _ _ w _):=zc (fun w=>HHALF.out l h w (by omega) hb)
     have K5:Hid (∀ w,Calls _ _ _ w _):=zc (fun w=>HFLO.out l h w (by omega) hb)
     rw [hM] at K5
     have K6:Hid (∀ w,Calls _ _ _ w _):=zc (fun w=>HMUL.out M w (by omega))
     have K7:Hid (∀ w,Calls _ _ _ w _):=zc (fun w=>HCMP.out M w (by omega))
     obtain ⟨E,hE⟩:∃ E,cmpI ((M * M:Nat):Int) (z:Int)=E:=⟨_,rfl⟩
     rw [hE] at K7
     have HE:=zc hE
     clear hl hh hb hlh hD hC hd1 hM hE
     go_wp2_with fail
     refine zf (K1.out _) ?_
     rintro e w4 ⟨rfl,hx4⟩
     go_wp2_with fail
     refine zf (K2.out _) ?_
     rintro e w5 ⟨rfl,hx5⟩
     go_wp2_with fail
     refine zf (K3.out _) ?_
     rintro e w6 ⟨rfl,hx6⟩
     go_wp2_with fail
     refine zf (K4.out _) ?_
     rintro e w7 ⟨rfl,hx7⟩
     go_wp2_with fail
     refine zf (K5.out _) ?_
     rintro e w8 ⟨rfl,hx8⟩
     go_wp2_with fail
     refine zf (K6.out _) ?_
     rintro e w9 ⟨rfl,hx9⟩
     go_wp2_with fail
     refine zf (K7.out _) ?_
     rintro e w10 ⟨rfl,hx10⟩
     by_cases he:E <= 0
     ·have hle : M * M <= z := by have := zoJ.1 (show cmpI ((M * M : Nat) : Int) (z : Int) <= 0 by rw [HE.out]; exact he); omega
      have HLE:=zc hle
      clear hle
      go_wp2_with fail
      go_roundg (0+(h - M))
      case rel=>exact ⟨M,h,rfl,rfl,rfl,HLE.out,HH.out,HB.out,zaa⟩
      case measure=>have:=HMB.out; omega
     ·have hgt:z < M * M:=by
       rcases Nat.lt_or_ge z (M * M) with h1 | h1
       ·exact h1
       ·exact absurd (zoJ.2 (show ((M * M:Nat):Int) <= (z:Int) by omega)) (by rw [HE.out]; exact he)
      have HGT2:=zc hgt
      have hep:decide (E <= 0)=false:=by simpa using he
      clear hgt
      go_wp2_with fail
      go_roundg (0+(M - l))
      case rel=>exact ⟨l,M,rfl,rfl,rfl,HL.out,HGT2.out,by have:=HMB.out; have:=HB.out; omega,zaa⟩
      case measure=>have:=HMB.out; omega
end
end
section
open Go.Sort Go.Lib
class WrOk (a:List UInt8) (r:outParam (List UInt8)):Prop where
 out:∀ w:World,Calls Tryz.prog 81 #[str a] w (PRet w (str r))
theorem wr_o {a r:List UInt8} {w:World} [h:WrOk a r]:Calls Tryz.prog 81 #[str a] w (PRet w (str r)):=h.out w
theorem zq5 (n:Nat):zad (n:Rat)=zt n:=rfl
theorem zq6 {z:Int} (h:0 <= z):zad (z:Rat)=zt z.natAbs:=by
 unfold zt
 rw [Int.natAbs_of_nonneg h]
theorem zdiv (a b:Nat):((a:Int):Rat) / ((b:Int):Rat)=Rat.divInt (a:Int) (b:Int):=by
 rw [Rat.divInt_eq_div]
theorem zqW (k:Nat):((10:Int):Rat) ^ k=(((10 ^ k:Nat):Int):Rat):=by
 rw [Int.natCast_pow,Rat.intCast_pow]; rfl
theorem zq3 {k:Nat} (hk:k <= 12):wl (10 ^ k) <= 1:=zaf (Nat.lt_of_le_of_lt (Nat.pow_le_pow_right (by decide) hk) (by unfold B64; decide))
theorem zp6 (x:Rat) (h0:0 <= x.num) (k:Nat):(x * (((10 ^ k * 10 ^ k:Nat):Int):Rat)).num / ((x * (((10 ^ k * 10 ^ k:Nat):Int):Rat)).den:Int)=((x.num.natAbs * 100 ^ k / x.den:Nat):Int):=by
 have e:x * (((10 ^ k * 10 ^ k:Nat):Int):Rat)=Rat.divInt (x.num * ((10 ^ k * 10 ^ k:Nat):Int)) (x.den:Int):=by
  rw [zq7 (((10 ^ k * 10 ^ k:Nat):Int))]
  conv=>lhs; rw [<- zod x]
  rw [Rat.divInt_mul_divInt,Int.mul_one]
 rw [e,zoM (by have:=x.den_pos; omega),<- Nat.mul_pow]
 conv=>lhs; rw [<- Int.natAbs_of_nonneg h0]
 rw [<- Int.natCast_mul,<- Int.natCast_ediv]
theorem zqm {p q:Rat} (hp:Fits p) (hq:Fits q) (h:zad p=zad q):p=q:=by
 have h1:=(zoj hp).2
 have h2:=(zoj hq).2
 rw [h,h2] at h1
 exact h1.symm
section
variable {w:World} {x:Rat} {rn rd r k m:Nat}
theorem zqZ [d:Sz x m] (h1m:1 <= m) (hm:m <= 7) (hk:k <= 12) (h0:0 <= x.num) (hn:zb5 x.num.natAbs rn) (hd:zb5 x.den rd) (hr:zb5 (x.num.natAbs * 100 ^ k / x.den) r):
  Calls Tryz.prog 17 #[str (zad x),.int .i64 (k:Int)] w (PRet w (spanR (rootI x rn rd r k))):=by
 have wn:wl x.num.natAbs <= m:=d.num
 have wd:wl x.den <= m:=d.den
 have wrn:wl rn <= m:=by have:=(zd7 hn wn).out; rwa [Int.natAbs_natCast] at this
 have wrd:wl rd <= m:=by have:=(zd7 hd wd).out; rwa [Int.natAbs_natCast] at this
 have z1:=zsz wrn
 have z2:=zsz wrd
 have hrd0:rd ≠ 0:=by rintro rfl; have:=hd.2; have:=x.den_pos; omega
 have hq0:((rd:Int):Rat) ≠ 0:=by
  intro h
  have:=Rat.intCast_eq_zero_iff.1 h
  omega
 have HNum:Hid (∀ w,Calls _ _ _ w _):=zc (fun w=>zlv (q:=x) (a:=m) (w:=w) (by omega))
 rw [zq6 h0] at HNum
 have HDen:Hid (∀ w,Calls _ _ _ w _):=zc (fun w=>zn4 (q:=x) (a:=m) (w:=w) (by omega))
 rw [zq5] at HDen
 have I1:WrOk (zt x.num.natAbs) (zt rn):=⟨fun w=>zpo wn (by omega) hn⟩
 have I2:WrOk (zt x.den) (zt rd):=⟨fun w=>zpo wd (by omega) hd⟩
 have HDv:Hid (∀ w,Calls _ _ _ w _):=zc (fun w=>zoU (p:=((rn:Int):Rat)) (q:=((rd:Int):Rat)) (a:=m+1) (b:=m+1) (w:=w) (by omega) (by omega) hq0)
 rw [zdiv,show zad ((rn:Int):Rat)=zt rn from rfl,show zad ((rd:Int):Rat)=zt rd from rfl] at HDv
 have wi1:Wd (rn:Int) m:=zd7 hn wn
 have wi2:Wd (rd:Int) m:=zd7 hd wd
 have se:Sz (Rat.divInt (rn:Int) (rd:Int)) (m+m+1):=za
 have see:Sz (Rat.divInt (rn:Int) (rd:Int) * Rat.divInt (rn:Int) (rd:Int)) (m+m+1+(m+m+1)):=za
 have HMu:Hid (∀ w,Calls _ _ _ w _):=zc (fun w=>zoh (p:=Rat.divInt (rn:Int) (rd:Int)) (q:=Rat.divInt (rn:Int) (rd:Int)) (a:=m+m+1) (b:=m+m+1) (w:=w) (by omega) (by omega))
 have hx:=zow h0 hn hd
 have HSi:Hid (∀ w,Calls _ _ _ w _):=zc (fun w=>zla (q:=Rat.divInt (rn:Int) (rd:Int)) (w:=w))
 by_cases he:Rat.divInt (rn:Int) (rd:Int) * Rat.divInt (rn:Int) (rd:Int)=x
 ·have HV : Hid (rootI x rn rd r k = (Rat.divInt (rn : Int) (rd : Int), Rat.divInt (rn : Int) (rd : Int))) := zc (if_pos (hx.1 he))
  rw [he] at HMu
  rw [HV.out]
  rw [show spanR (Rat.divInt (rn:Int) (rd:Int),Rat.divInt (rn:Int) (rd:Int))=spv (zad (Rat.divInt (rn:Int) (rd:Int))) (zad (Rat.divInt (rn:Int) (rd:Int))) from rfl] at HSi ⊢
  generalize zad (Rat.divInt (rn:Int) (rd:Int))=E at *
  obtain ⟨X,hX⟩:∃ X,zad x=X:=⟨_,rfl⟩
  rw [hX] at HNum HDen HMu ⊢
  generalize zt x.num.natAbs=A1 at *
  generalize zt x.den=A2 at *
  generalize zt rn=R1 at *
  generalize zt rd=R2 at *
  have id1:Dv9 R1 R2 E:=⟨HDv.out⟩
  have im1:Mu9 E E X:=⟨HMu.out⟩
  clear HDv HMu
  clear hX HV he hx see se wi1 wi2 hq0 hrd0 z1 z2 wrn wrd wn wd hn hd hr h0 hk hm h1m
  go_enter Tryz.func17,Tryz.ntmps17
  go_wp2_with ((first | (go_at_call 82; refine zf (HNum.out _) ?_; rintro e w1 ⟨rfl,_⟩) | (go_at_call 83; refine zf (HDen.out _) ?_; rintro e w1 ⟨rfl,_⟩) | (go_at_call 81; refine zf (wr_o) ?_; rintro e w1 ⟨rfl,_⟩) | (go_at_call 80; refine zf (dv9_o) ?_; rintro e w1 ⟨rfl,_⟩) | (go_at_call 52; refine zf (mu9_o) ?_; rintro e w1 ⟨rfl,_⟩) | (go_at_call 84; refine zf (HSi.out _) ?_; rintro e w1 ⟨rfl,_⟩)))
  simp [bodyPost,results,Tryz.results17,go_sem]
  exact ⟨rfl,zaa⟩
 ·have hne : ¬ zad (Rat.divInt (rn : Int) (rd : Int) * Rat.divInt (rn : Int) (rd : Int)) = zad x := fun h => he (zqm (zoc see (by omega) (by omega)) (zoc d h1m (by omega)) h)
  have HV:Hid (rootI x rn rd r k=stepI r k):=zc (if_neg (fun h=>he (hx.2 h)))
  have w10:=zq3 hk
  have zu:=zsz w10
  have HPow:Hid (∀ w,Calls _ _ _ w _):=zc (fun w=>zqa (q:=((10:Int):Rat)) (s:=2) (K:=k) (w:=w) (d:=zsz (n:=10) (zaf (by unfold B64; omega))) (by decide) (by omega))
  rw [zqW,zpp,show zad (((10 ^ k:Nat):Int):Rat)=zt (10 ^ k) from rfl] at HPow
  have HUU:Hid (∀ w,Calls _ _ _ w _):=zc (fun w=>zp3 (a:=10 ^ k) (b:=10 ^ k) (m:=1) (w:=w) w10 w10 (by decide))
  have zuu:=zsz (show wl (10 ^ k * 10 ^ k) <= 2 by have:=zgy (10 ^ k) (10 ^ k); omega)
  have HXU:Hid (∀ w,Calls _ _ _ w _):=zc (fun w=>zoh (p:=x) (q:=(((10 ^ k * 10 ^ k:Nat):Int):Rat)) (a:=m) (b:=3) (w:=w) (by omega) (by decide))
  rw [show zad (((10 ^ k * 10 ^ k:Nat):Int):Rat)=zt (10 ^ k * 10 ^ k) from rfl] at HXU
  have sxu:Sz (x * (((10 ^ k * 10 ^ k:Nat):Int):Rat)) (m+3):=za
  have HFl:Hid (∀ w,Calls _ _ _ w _):=zc (fun w=>zo3 (q:=x * (((10 ^ k * 10 ^ k:Nat):Int):Rat)) (a:=m+3) (w:=w) (by omega))
  rw [zp6 x h0 k,show zad (((x.num.natAbs * 100 ^ k / x.den:Nat):Int):Rat)=zt (x.num.natAbs * 100 ^ k / x.den) from rfl] at HFl
  have wf:wl (x.num.natAbs * 100 ^ k / x.den) <= m+2:=by
   refine zo (zar (Nat.div_le_self _ _)) ?_
   have h3:=zgy x.num.natAbs (100 ^ k)
   have h4:wl (100 ^ k) <= 2:=by
    rw [show (100:Nat) ^ k=10 ^ k * 10 ^ k by rw [<- Nat.mul_pow]]
    have:=zgy (10 ^ k) (10 ^ k); omega
   omega
  have I3:WrOk (zt (x.num.natAbs * 100 ^ k / x.den)) (zt r):=⟨fun w=>zpo wf (by omega) hr⟩
  have wr:wl r <= m+2:=by have:=(zd7 hr wf).out; rwa [Int.natAbs_natCast] at this
  have hu0:(((10 ^ k:Nat):Int):Rat) ≠ 0:=by
   intro h
   have h5:=Rat.intCast_eq_zero_iff.1 h
   have:0 < 10 ^ k:=Nat.pow_pos (by decide)
   omega
  have zr1:=zsz wr
  have wr1:wl (r+1) <= m+3:=by have:=zhx r 1; have:=za1; omega
  have zr2:=zsz wr1
  have HD1:Hid (∀ w,Calls _ _ _ w _):=zc (fun w=>zoU (p:=((r:Int):Rat)) (q:=(((10 ^ k:Nat):Int):Rat)) (a:=m+3) (b:=2) (w:=w) (by omega) (by decide) hu0)
  have HD2:Hid (∀ w,Calls _ _ _ w _):=zc (fun w=>zoU (p:=(((r+1:Nat):Int):Rat)) (q:=(((10 ^ k:Nat):Int):Rat)) (a:=m+4) (b:=2) (w:=w) (by omega) (by decide) hu0)
  have HAd:Hid (∀ w,Calls _ _ #[str (zt r),.string ⟨#[49]⟩] w _):=zc (fun w=>by
   have h:=zqk (a:=r) (b:=1) (m:=m+3) (w:=w) (by omega) (by have:=za1; omega) (by omega)
   rw [zt1] at h; exact h)
  rw [zdiv,show zad ((r:Int):Rat)=zt r from rfl,show zad (((10 ^ k:Nat):Int):Rat)=zt (10 ^ k) from rfl] at HD1
  rw [zdiv,show zad (((r+1:Nat):Int):Rat)=zt (r+1) from rfl,show zad (((10 ^ k:Nat):Int):Rat)=zt (10 ^ k) from rfl] at HD2
  have HST:Hid (spanR (stepI r k) = .agg #[str (zad (Rat.divInt (r:Int) ((10 ^ k:Nat):Int))),str (zad (Rat.divInt ((r+1:Nat):Int) ((10 ^ k:Nat):Int)))]):=zc (by
   unfold stepI
   rw [Int.natCast_pow,Int.natCast_add]
   rfl)
  rw [HV.out,HST.out]
  generalize zad (Rat.divInt (r:Int) ((10 ^ k:Nat):Int))=V1 at *
  generalize zad (Rat.divInt ((r+1:Nat):Int) ((10 ^ k:Nat):Int))=V2 at *
  generalize zad (Rat.divInt (rn:Int) (rd:Int) * Rat.divInt (rn:Int) (rd:Int))=EE at *
  generalize zad (Rat.divInt (rn:Int) (rd:Int))=E at *
  generalize zad (x * (((10 ^ k * 10 ^ k:Nat):Int):Rat))=XU at *
  obtain ⟨X,hX⟩:∃ X,zad x=X:=⟨_,rfl⟩
  rw [hX] at HNum HDen HXU hne ⊢
  generalize zt x.num.natAbs=A1 at *
  generalize zt (x.num.natAbs * 100 ^ k / x.den)=A3 at *
  generalize zt x.den=A2 at *
  generalize zt rn=R1 at *
  generalize zt rd=R2 at *
  generalize zt (r+1)=R4 at *
  generalize zt r=R3 at *
  generalize zt (10 ^ k * 10 ^ k)=UU at *
  generalize zt (10 ^ k)=U at *
  have id1:Dv9 R1 R2 E:=⟨HDv.out⟩
  have id2:Dv9 R3 U V1:=⟨HD1.out⟩
  have id3:Dv9 R4 U V2:=⟨HD2.out⟩
  have im1:Mu9 E E EE:=⟨HMu.out⟩
  have im2:Mu9 U U UU:=⟨HUU.out⟩
  have im3:Mu9 X UU XU:=⟨HXU.out⟩
  clear HDv HD1 HD2 HMu HUU HXU
  have hnx:(EE == X)=false:=by simpa using hne
  clear hX HV he hx see se wi1 wi2 hq0 hrd0 z1 z2 wrn wrd wn wd hn hd hr h0 hk hm h1m hne w10 zu zuu sxu wf wr hu0 zr1 wr1 zr2 HST HSi
  go_enter Tryz.func17,Tryz.ntmps17
  go_wp2_with ((first | (go_at_call 82; refine zf (HNum.out _) ?_; rintro e w1 ⟨rfl,_⟩) | (go_at_call 83; refine zf (HDen.out _) ?_; rintro e w1 ⟨rfl,_⟩) | (go_at_call 81; refine zf (wr_o) ?_; rintro e w1 ⟨rfl,_⟩) | (go_at_call 80; refine zf (dv9_o) ?_; rintro e w1 ⟨rfl,_⟩) | (go_at_call 52; refine zf (mu9_o) ?_; rintro e w1 ⟨rfl,_⟩) | (go_at_call 85; refine zf (HPow.out _) ?_; rintro e w1 ⟨rfl,_⟩) | (go_at_call 86; refine zf (HFl.out _) ?_; rintro e w1 ⟨rfl,_⟩) | (go_at_call 51; refine zf (HAd.out _) ?_; rintro e w1 ⟨rfl,_⟩)))
  simp [bodyPost,results,Tryz.results17,go_sem]
  exact ⟨rfl,zaa⟩
end
end
section
open Go.Sort Go.Lib
section
variable {w:World} {l:List UInt8} {k:Int}
theorem zqT (hl:l.length < 2 ^ 40) (he:rootE l k ≠ 0):Calls Tryz.prog 10 #[str l,.int .i64 k] w (PRet w (.tuple #[spv [] [],.int .i64 (rootE l k)])):=by
 obtain ⟨E,hE⟩:∃ E,rootE l k=E:=⟨_,rfl⟩
 rw [hE] at he ⊢
 have HE0:=zc he
 have H1:=zc (show readE l ≠ 0 -> E=readE l from fun h=>by rw [<- hE]; exact if_pos h)
 have H2:=zc (show readE l=0 -> sgnI (readQ l).num < 0 -> E=3 from fun h h2=>by rw [<- hE]; unfold rootE; rw [if_neg (fun h3=>h3 h),if_pos h2])
 have H3:=zc (show readE l=0 -> ¬ sgnI (readQ l).num < 0 -> E=decE k from fun h h2=>by rw [<- hE]; unfold rootE; rw [if_neg (fun h3=>h3 h),if_neg h2])
 have HR:=zc (show ∀ w,Calls _ _ _ w _ from fun w=>zdJ (w:=w) hl)
 have sq:Sz (readQ l) 600:=za
 generalize readQ l=q at *
 generalize readE l=E0 at *
 obtain ⟨c,hc⟩:∃ c,sgnI q.num=c:=⟨_,rfl⟩
 rw [hc] at H2 H3
 have HC:=zc (show ∀ w v,RatIs w v q -> Calls _ _ _ w _ from fun w v _=>zaT (w:=w) (v1:=v) (q:=q))
 rw [hc] at HC
 have HDC:=zc (show ∀ w,Calls _ _ _ w _ from fun w=>zc4 (w:=w) (k:=k))
 obtain ⟨D,hD⟩:∃ D,decE k=D:=⟨_,rfl⟩
 rw [hD] at H3 HDC
 clear hl hE he hc hD
 by_cases h0:E0=0
 ·subst h0
  by_cases hc:c < 0
  ·have hE := H2.out rfl hc
   have hcd:decide (c < 0)=true:=by simpa using hc
   have HEE:=zc hE
   clear hE
   go_enter Tryz.func10,Tryz.ntmps10
   go_wp2_with fail
   refine zf (HR.out _) ?_
   rintro e w1 ⟨q1,rfl,_,_⟩
   go_wp2_with fail
   refine zf (HC.out _ _ (by infer_instance)) ?_
   rintro e w2 ⟨rfl,_⟩
   go_wp2_with fail
   simp [bodyPost,results,Tryz.results10,go_sem]
   exact ⟨by rw [HEE.out] <;> rfl,zaa⟩
  ·have hE := H3.out rfl hc
   have hcd:decide (c < 0)=false:=by simpa using hc
   have hd:D ≠ 0:=fun h=>HE0.out (by rw [hE]; exact h)
   have hdb:(D != 0)=true:=by simpa using hd
   have HEE:=zc hE
   clear hE hd
   go_enter Tryz.func10,Tryz.ntmps10
   go_wp2_with fail
   refine zf (HR.out _) ?_
   rintro e w1 ⟨q1,rfl,_,_⟩
   go_wp2_with fail
   refine zf (HC.out _ _ (by infer_instance)) ?_
   rintro e w2 ⟨rfl,_⟩
   go_wp2_with fail
   refine zf (HDC.out _) ?_
   rintro e w3 ⟨rfl,_⟩
   go_wp2_with fail
   simp [bodyPost,results,Tryz.results10,go_sem]
   exact ⟨by rw [HEE.out] <;> rfl,zaa⟩
 ·have hE := H1.out h0
  have hb:(E0 != 0)=true:=by simpa using h0
  have HEE:=zc hE
  clear hE
  go_enter Tryz.func10,Tryz.ntmps10
  go_wp2_with fail
  refine zf (HR.out _) ?_
  rintro e w1 ⟨q1,rfl,_,_⟩
  go_wp2_with fail
  simp [bodyPost,results,Tryz.results10,go_sem]
  exact ⟨by rw [HEE.out] <;> rfl,zaa⟩
end
end
section
open Go.Sort Go.Lib
theorem zov:∀ n:Nat,∃ r,zb5 n r
 | 0=>⟨0,by unfold zb5; omega⟩
 | n+1=>by
  obtain ⟨r,h1,h2⟩:=zov n
  by_cases h:(r+1) * (r+1) <= n+1
  ·refine ⟨r + 1, h, ?_⟩
   have:=Nat.mul_lt_mul_of_lt_of_le (show r+1 < r+1+1 by omega) (show r+1 <= r+1+1 by omega) (by omega)
   omega
  ·exact ⟨r,by omega,by omega⟩
theorem zqp {k:Nat} (hk:k <= 12):Wd ((10:Int) ^ k) 1:=⟨by
 rw [Int.natAbs_pow]
 exact zaf (Nat.lt_of_le_of_lt (Nat.pow_le_pow_right (by decide) hk) (by unfold B64; decide))⟩
theorem zp9 {x:Rat} {rn rd r k m:Nat} (d:Sz x m) (h1:1 <= m) (hk:k <= 12) (hn:zb5 x.num.natAbs rn) (hd:zb5 x.den rd) (hr:zb5 (x.num.natAbs * 100 ^ k / x.den) r):Sz (rootI x rn rd r k).1 (m+m+5)/\Sz (rootI x rn rd r k).2 (m+m+5):=by
 have w1:Wd (rn:Int) m:=zd7 hn d.num
 have w2:Wd (rd:Int) m:=zd7 hd d.den
 have wf:wl (x.num.natAbs * 100 ^ k / x.den) <= m+2:=by
  refine zo (zar (Nat.div_le_self _ _)) ?_
  have h3:=zgy x.num.natAbs (100 ^ k)
  have h4:wl (100 ^ k) <= 2:=zaf (Nat.lt_of_le_of_lt (Nat.pow_le_pow_right (by decide) hk) (by unfold B64; decide))
  have:=d.num
  omega
 have w3:Wd (r:Int) (m+2):=zd7 hr wf
 have w4:=zqp hk
 have w5:Wd ((r:Int)+1) (m+3):=⟨by
  have h5:=w3.out
  rw [Int.natAbs_natCast] at h5
  rw [show ((r:Int)+1).natAbs=r+1 by omega]
  have:=zhx r 1; have:=za1; omega⟩
 have s1:Sz (Rat.divInt (rn:Int) (rd:Int)) (m+m+1):=za
 have s2:Sz (Rat.divInt (r:Int) ((10:Int) ^ k)) (m+2+1+1):=sz_divInt (a:=m+2) (b:=1) (h1:=w3) (h2:=w4)
 have s3:Sz (Rat.divInt ((r:Int)+1) ((10:Int) ^ k)) (m+3+1+1):=sz_divInt (a:=m+3) (b:=1) (h1:=w5) (h2:=w4)
 unfold rootI
 split
 ·exact ⟨s1.up (by omega),s1.up (by omega)⟩
 ·exact ⟨s2.up (by omega),s3.up (by omega)⟩
end
section
open Go.Sort Go.Lib
section
variable {w:World} {x y:Rat × Rat} {k:Nat}
theorem zq0 [d1:Sz x.1 k] [d2:Sz x.2 k] [d3:Sz y.1 k] [d4:Sz y.2 k] (hk:k <= 2 ^ 12) (h1:y.1 ≠ 0) (h2:y.2 ≠ 0):Calls Tryz.prog 33 #[spanR x,spanR y] w (PRet w (spanR (divI x y))):=by
 have HK:=zc hk
 have HV:Hid (divI x y=hullF (x.1 / y.1,x.1 / y.1) [x.1 / y.2,x.2 / y.1,x.2 / y.2]):=zc (zf3 _ _ _)
 have HD1:Hid (∀ w,Calls _ _ _ w _):=zc (fun w=>zoU (p:=x.1) (q:=y.1) (a:=k) (b:=k) (w:=w) (by omega) (by omega) h1)
 have HD2:Hid (∀ w,Calls _ _ _ w _):=zc (fun w=>zoU (p:=x.1) (q:=y.2) (a:=k) (b:=k) (w:=w) (by omega) (by omega) h2)
 have HD3:Hid (∀ w,Calls _ _ _ w _):=zc (fun w=>zoU (p:=x.2) (q:=y.1) (a:=k) (b:=k) (w:=w) (by omega) (by omega) h1)
 have HD4:Hid (∀ w,Calls _ _ _ w _):=zc (fun w=>zoU (p:=x.2) (q:=y.2) (a:=k) (b:=k) (w:=w) (by omega) (by omega) h2)
 have i1:Sz (y.1)⁻¹ (k+k+1):=zpH
 have i2:Sz (y.2)⁻¹ (k+k+1):=zpH
 have s1:Sz (x.1 / y.1) (k+(k+k+1)):=by rw [Rat.div_def]; infer_instance
 have s2:Sz (x.1 / y.2) (k+(k+k+1)):=by rw [Rat.div_def]; infer_instance
 have s3:Sz (x.2 / y.1) (k+(k+k+1)):=by rw [Rat.div_def]; infer_instance
 have s4:Sz (x.2 / y.2) (k+(k+k+1)):=by rw [Rat.div_def]; infer_instance
 have e1:spanR x=spv (zad x.1) (zad x.2):=rfl
 have e2:spanR y=spv (zad y.1) (zad y.2):=rfl
 rw [e1,e2]
 have id1:Dv9 (zad x.1) (zad y.1) (zad (x.1 / y.1)):=⟨HD1.out⟩
 have id2:Dv9 (zad x.1) (zad y.2) (zad (x.1 / y.2)):=⟨HD2.out⟩
 have id3:Dv9 (zad x.2) (zad y.1) (zad (x.2 / y.1)):=⟨HD3.out⟩
 have id4:Dv9 (zad x.2) (zad y.2) (zad (x.2 / y.2)):=⟨HD4.out⟩
 clear hk i1 i2 h1 h2 e1 e2 HD1 HD2 HD3 HD4
 go_enter Tryz.func33,Tryz.ntmps33
 go_wp2_with fail
 (refine Code.nameW ?_; intro W hW; go_region_held3 (fun w'=>ButO W [w.heap.size+1+1] w') (exact zab) (((first | (go_at_call 80; refine zf (dv9_o) ?_; rintro e w1 ⟨rfl,_⟩) | (go_at_call 99; refine zf (zpw (a:=x.1 / y.1) (b:=x.1 / y.2) (d:=x.2 / y.1) (e:=x.2 / y.2) (k:=k+(k+k+1)) (by have:=HK.out; omega)) ?_; rintro e w1 ⟨rfl,_⟩)))))
 all_goals go_wp2_with fail
 all_goals simp [bodyPost,results,Tryz.results33,go_sem]
 all_goals exact ⟨by rw [HV.out] <;> rfl,zaa⟩
end
def ordC (al ah bl bh:List UInt8):Int:=if cmpQ (readQ ah) (readQ bl) < 0 then -1 else if cmpQ (readQ bh) (readQ al) < 0 then 1 else 0
def ordE (al ah bl bh:List UInt8):Int:=if cmpQ (readQ ah) (readQ bl) < 0 then 0 else if cmpQ (readQ bh) (readQ al) < 0 then 0 else if al=bl/\ah=bh/\al=ah then 0 else 24
section
variable {w:World} {al ah bl bh:List UInt8} {k:Nat}
theorem zqL [d1:Sz (readQ al) k] [d2:Sz (readQ ah) k] [d3:Sz (readQ bl) k] [d4:Sz (readQ bh) k] (hk:k <= 2 ^ 15) (t1:zad (readQ al)=al) (t2:zad (readQ ah)=ah) (t3:zad (readQ bl)=bl) (t4:zad (readQ bh)=bh):
  Calls Tryz.prog 28 #[spv al ah,spv bl bh] w (PRet w (.tuple #[.int .i64 (ordC al ah bl bh),.int .i64 (ordE al ah bl bh)])):=by
 have H1:Hid (∀ w,Calls _ _ _ w _):=zc (fun w=>ziA (p:=readQ ah) (q:=readQ bl) (a:=k) (b:=k) (w:=w) hk hk)
 have H2:Hid (∀ w,Calls _ _ _ w _):=zc (fun w=>ziA (p:=readQ bh) (q:=readQ al) (a:=k) (b:=k) (w:=w) hk hk)
 rw [zka,t2,t3] at H1
 rw [zka,t4,t1] at H2
 have HC:Hid (ordC al ah bl bh=if cmpQ (readQ ah) (readQ bl) < 0 then -1 else if cmpQ (readQ bh) (readQ al) < 0 then 1 else 0):=zc rfl
 have HE:Hid (ordE al ah bl bh=if cmpQ (readQ ah) (readQ bl) < 0 then 0 else if cmpQ (readQ bh) (readQ al) < 0 then 0 else if al=bl/\ah=bh/\al=ah then 0 else 24):=zc rfl
 obtain ⟨C1,hC1⟩:∃ C,cmpQ (readQ ah) (readQ bl)=C:=⟨_,rfl⟩
 obtain ⟨C2,hC2⟩:∃ C,cmpQ (readQ bh) (readQ al)=C:=⟨_,rfl⟩
 rw [hC1] at H1 HC HE
 rw [hC2] at H2 HC HE
 clear hk t1 t2 t3 t4 hC1 hC2 d1 d2 d3 d4
 by_cases h1:C1 < 0
 ·have k1 : decide (C1 < 0) = true := by simpa using h1
  rw [if_pos h1] at HC HE
  rw [HC.out,HE.out]
  clear h1 HC HE
  go_enter Tryz.func28,Tryz.ntmps28
  go_wp2_with fail
  refine zf (H1.out _) ?_
  rintro e w1 ⟨rfl,hx1⟩
  go_wp2_with fail
  go_ret2
  exact ⟨rfl,zaa⟩
 ·have k1 : decide (C1 < 0) = false := by simpa using h1
  rw [if_neg h1] at HC HE
  by_cases h2:C2 < 0
  ·have k2 : decide (C2 < 0) = true := by simpa using h2
   rw [if_pos h2] at HC HE
   rw [HC.out,HE.out]
   clear h1 h2 HC HE
   go_enter Tryz.func28,Tryz.ntmps28
   go_wp2_with fail
   refine zf (H1.out _) ?_
   rintro e w1 ⟨rfl,hx1⟩
   go_wp2_with fail
   refine zf (H2.out _) ?_
   rintro e w2 ⟨rfl,hx2⟩
   go_wp2_with fail
   go_ret2
   exact ⟨rfl,zaa⟩
  ·have k2 : decide (C2 < 0) = false := by simpa using h2
   rw [if_neg h2] at HC HE
   rw [HC.out]
   clear h1 h2 HC
   go_enter Tryz.func28,Tryz.ntmps28
   go_wp2_with fail
   refine zf (H1.out _) ?_
   rintro e w1 ⟨rfl,hx1⟩
   go_wp2_with fail
   refine zf (H2.out _) ?_
   rintro e w2 ⟨rfl,hx2⟩
   go_wp2_with fail
   all_goals
    go_ret2
    exact ⟨by
     rw [HE.out]
     clear HE H1 H2
     first
     | (rw [if_pos (by simp_all)]; rfl)
     | (rw [if_neg (by simp_all)]; rfl),zaa⟩
end
section
variable {w:World} {k:Int}
theorem zqD:Calls Tryz.prog 15 #[.int .i64 k] w (PRet w (.int .i64 (decE k))):=by
 have H1:=zc (show k < 1 -> decE k=3 from fun h=>if_pos (Or.inl h))
 have H2:=zc (show 12 < k -> decE k=3 from fun h=>if_pos (Or.inr h))
 have H3:=zc (show 1 <= k -> k <= 12 -> decE k=0 from fun h h2=>if_neg (by omega))
 go_enter Tryz.func15,Tryz.ntmps15
 go_wp2_with fail
 all_goals go_ret
 all_goals first
  | exact ⟨by rw [H1.out (by omega)]; rfl,zaa⟩
  | exact ⟨by rw [H2.out (by omega)]; rfl,zaa⟩
  | exact ⟨by rw [H3.out (by omega) (by omega)]; rfl,zaa⟩
theorem zq4 {b:Bool} {e:Int}:Calls Tryz.prog 13 #[.bool b,.int .i64 e] w (fun r w'=>∃ z:Int,r = .returned (.int .i64 z)/\(z=if b then e else 0)/\Nxt w w'):=by
 cases b
 ·go_enter Tryz.func13, Tryz.ntmps13
  go_wp2_with fail
  go_ret
  exact ⟨0,rfl,rfl,zaa⟩
 ·go_enter Tryz.func13, Tryz.ntmps13
  go_wp2_with fail
  go_ret
  exact ⟨e,rfl,rfl,zaa⟩
end
section
variable {w:World} {l h:List UInt8}
theorem zqF (h1:l.length < 2 ^ 40) (h2:h.length < 2 ^ 40):Calls Tryz.prog 20 #[spv l h] w (PRet w (.int .i64 (spE l h))):=by
 have HRD:=zc (show ∀ w,Calls _ _ _ w _ from fun w=>zeg (w:=w) h1 h2)
 obtain ⟨E,hE⟩:∃ E,spE l h=E:=⟨_,rfl⟩
 rw [hE] at HRD ⊢
 clear h1 h2 hE
 go_enter Tryz.func20,Tryz.ntmps20
 go_wp2_with fail
 refine zf (HRD.out _) ?_
 rintro e w1 ⟨q1,q2,rfl,_,_,_⟩
 go_wp2_with fail
 go_ret
 exact ⟨rfl,zaa⟩
end
end
section
open Go.Sort Go.Lib
class SpOk (T1 T2:List UInt8) (E F:Int) (P1 P2:List UInt8):Prop where
 out:∀ w:World,Calls Tryz.prog 16 #[spv T1 T2,.int .i64 E,.int .i64 F,spv P1 P2] w (PRet w (.bool true))
theorem spc_o {T1 T2 P1 P2:List UInt8} {E F:Int} {w:World} [h:SpOk T1 T2 E F P1 P2]:Calls Tryz.prog 16 #[spv T1 T2,.int .i64 E,.int .i64 F,spv P1 P2] w (PRet w (.bool true)):=h.out w
theorem zqy {E:Int} {a b:List UInt8} (h:E ≠ 0):SpOk [] [] E E a b:=⟨fun _=>zk7 h⟩
theorem zqB {Z:Rat × Rat} {k:Nat} (d1:Sz Z.1 k) (d2:Sz Z.2 k) (hk:k <= 2 ^ 15):SpOk (wLo Z) (wHi Z) (wE2 Z) 0 (zad Z.1) (zad Z.2):=⟨fun _=>zmR (k:=k) hk⟩
theorem zqA (Z:Rat × Rat):zbw Z = .tuple #[spv (wLo Z) (wHi Z),.int .i64 (wE2 Z)]:=rfl
theorem sz60 {l:List UInt8} (hE:readE l=0) (hl:l.length <= 60):Sz (readQ l) 4:=by
 have h:=(zfY (readQ l)).2
 rw [zf8 hE] at h
 have hn:∀ n,(Lib.decDigits n).length <= 60 -> wl n <= 4:=fun n hn=>by
  have h1:=Lib.lt_pow_nDigits n
  rw [<- Lib.decDigits_length] at h1
  have h2:n < 10 ^ 60:=Nat.lt_of_lt_of_le h1 (Nat.pow_le_pow_right (by decide) hn)
  exact zaf (Nat.lt_of_lt_of_le h2 (by unfold B64; decide))
 refine ⟨hn _ ?_,hn _ ?_⟩
 ·have h3:(Lib.decDigits (readQ l).num.natAbs).length <= (itoaZ (readQ l).num).length:=by
   unfold itoaZ; split <;> simp
  omega
 ·by_cases h4 : (readQ l).den = 1
  ·rw [h4]; have h5:=zis (n:=1) (k:=1) (by rw [za1]; omega) (by omega); omega
  ·rw [if_neg h4] at h; omega
def wide4 (a1 a2 b1 b2:List UInt8):Bool:=[a1,a2,b1,b2].any fun x=>decide (60 < x.length)
theorem zqR {a1 a2 b1 b2:List UInt8} (h:wide4 a1 a2 b1 b2=false):(a1.length <= 60/\a2.length <= 60)/\(b1.length <= 60/\b2.length <= 60):=by
 unfold wide4 at h
 simp at h
 omega
section
variable {a1 a2 b1 b2:List UInt8} {k:Int}
theorem zqI (l1:a1.length <= 60):∃ (T1 T2:List UInt8) (E:Int),(∀ (w:World) [Glo w],Calls Tryz.prog 10 #[str a1,.int .i64 k] w (PRet w (.tuple #[spv T1 T2,.int .i64 E]))) /\
  ((rootE a1 k ≠ 0/\SpOk T1 T2 E (rootE a1 k) a1 a2) ∨ (rootE a1 k=0/\∃ P1 P2:List UInt8,(∀ w:World,Calls Tryz.prog 17 #[str a1,.int .i64 k] w (PRet w (spv P1 P2)))/\SpOk T1 T2 E 0 P1 P2)):=by
 by_cases h:rootE a1 k=0
 ·have e:readE a1=0:=by
   by_cases h3:readE a1=0
   ·exact h3
   ·unfold rootE at h; rw [if_pos h3] at h; exact absurd h h3
  have h2:¬ sgnI (readQ a1).num < 0:=by
   intro h4; unfold rootE at h; rw [if_neg (fun h5=>h5 e),if_pos h4] at h; cases h
  have h3:decE k=0:=by
   unfold rootE at h; rw [if_neg (fun h5=>h5 e),if_neg h2] at h; exact h
  have h4:1 <= k/\k <= 12:=by
   unfold decE at h3
   split at h3
   ·cases h3
   ·omega
  obtain ⟨n,rfl⟩:∃ n:Nat,k=(n:Int):=⟨k.toNat,by omega⟩
  have d:=sz60 e l1
  obtain ⟨x,hx⟩:∃ x,readQ a1=x:=⟨_,rfl⟩
  have h5:0 <= x.num:=by
   rw [<- hx]
   rcases Int.lt_or_le (readQ a1).num 0 with h6 | h6
   ·exact absurd (by unfold sgnI; rw [if_pos h6]; decide) h2
   ·exact h6
  have ht:=zf8 e
  rw [hx] at d ht
  obtain ⟨rn,hn⟩:=zov x.num.natAbs
  obtain ⟨rd,hd⟩:=zov x.den
  obtain ⟨r,hr⟩:=zov (x.num.natAbs * 100 ^ n / x.den)
  obtain ⟨s1,s2⟩:=zp9 d (by decide) (show n <= 12 by omega) hn hd hr
  refine ⟨wLo (rootI x rn rd r n),wHi (rootI x rn rd r n),wE2 (rootI x rn rd r n),fun w _=>?_,.inr ⟨h,zad (rootI x rn rd r n).1,zad (rootI x rn rd r n).2,fun w=>?_,zqB s1 s2 (by decide)⟩⟩
  ·have hc := zql (w := w) (l := a1) (x := x) (rn := rn) (rd := rd) (r := r) (n := n) (by omega) hx h hn hd hr
   rw [zqA] at hc
   exact hc
  ·have hc := zqZ (x := x) (m := 4) (w := w) (k := n) (by decide) (by decide) (by omega) h5 hn hd hr
   rw [ht] at hc
   exact hc
 ·exact ⟨[],[],rootE a1 k,fun w _=>zqT (by omega) h,.inl ⟨h,zqy h⟩⟩
theorem zqS (l1:a1.length <= 60) (l2:a2.length <= 60):∃ (T1 T2:List UInt8) (E:Int),(∀ (w:World) [Glo w],Calls Tryz.prog 18 #[spv a1 a2] w (PRet w (.tuple #[spv T1 T2,.int .i64 E]))) /\
  ((spE a1 a2 ≠ 0/\SpOk T1 T2 E (spE a1 a2) a1 a2) ∨ (spE a1 a2=0/\∃ P1 P2:List UInt8,(∀ w:World,Calls Tryz.prog 21 #[spv a1 a2] w (PRet w (spv P1 P2)))/\SpOk T1 T2 E 0 P1 P2)):=by
 by_cases h:spE a1 a2=0
 ·have o := (rd_ok h).2.2
  obtain ⟨X,hX⟩:∃ X,rdI a1 a2=X:=⟨_,rfl⟩
  have d1:Sz X.1 600:=by rw [<- hX]; infer_instance
  have d2:Sz X.2 600:=by rw [<- hX]; infer_instance
  have o2:Ord2 X:=by rw [<- hX]; exact o
  have f1:Sz (sqI X).1 (600+600):=za
  have f2:Sz (sqI X).2 (600+600):=za
  refine ⟨wLo (sqI X),wHi (sqI X),wE2 (sqI X),fun w _=>?_,.inr ⟨h,zad (sqI X).1,zad (sqI X).2,fun w=>?_,zqB f1 f2 (by decide)⟩⟩
  ·have hc := znN (w := w) (l := a1) (h := a2) (by omega) (by omega)
   rw [show zea a1 a2=zbw (sqI X) by unfold zea; rw [if_pos h,hX]] at hc
   exact hc
  ·have hc := zk4 (x := X) (k := 600) (w := w) (by decide) (by decide)
   rw [show spanR X=spv a1 a2 by rw [<- hX]; exact zpA h] at hc
   exact hc
 ·refine ⟨[], [], spE a1 a2, fun w _ => ?_, .inl ⟨h, zqy h⟩⟩
  have hc:=znN (w:=w) (l:=a1) (h:=a2) (by omega) (by omega)
  rw [show zea a1 a2=badS (spE a1 a2) from if_neg h] at hc
  exact hc
section
variable (h1:spE a1 a2=0) (h2:spE b1 b2=0) (l:a1.length <= 60/\a2.length <= 60) (m:b1.length <= 60/\b2.length <= 60)
include h1 h2 l m
theorem zqN {op:Rat × Rat -> Rat × Rat -> Rat × Rat}:onS op a1 a2 b1 b2 = .tuple #[spv (wLo (op (rdI a1 a2) (rdI b1 b2))) (wHi (op (rdI a1 a2) (rdI b1 b2))),.int .i64 (wE2 (op (rdI a1 a2) (rdI b1 b2)))]:=by
 unfold onS
 rw [if_pos (show spE2 a1 a2 b1 b2=0 by unfold spE2; rw [h1,h2]; rfl)]
 rfl
theorem zqM:∃ (T1 T2:List UInt8) (E:Int) (P1 P2:List UInt8),(∀ (w:World) [Glo w],Calls Tryz.prog 22 #[spv a1 a2,spv b1 b2] w (PRet w (.tuple #[spv T1 T2,.int .i64 E]))) /\
  (∀ w:World,Calls Tryz.prog 29 #[spv a1 a2,spv b1 b2] w (PRet w (spv P1 P2)))/\SpOk T1 T2 E 0 P1 P2:=by
 have o1:=(rd_ok h1).2.2
 have o2:=(rd_ok h2).2.2
 have f1:Sz (addI (rdI a1 a2) (rdI b1 b2)).1 (600+600+1):=za
 have f2:Sz (addI (rdI a1 a2) (rdI b1 b2)).2 (600+600+1):=za
 refine ⟨_,_,_,zad (addI (rdI a1 a2) (rdI b1 b2)).1,zad (addI (rdI a1 a2) (rdI b1 b2)).2,fun w _=>?_,fun w=>?_,zqB f1 f2 (by decide)⟩
 ·rw [<- zqN h1 h2 l m]
  exact zqV (by omega) (by omega) (by omega) (by omega)
 ·have hc := ziX (x := rdI a1 a2) (y := rdI b1 b2) (k := 600) (w := w) (by decide)
  rw [zpA h1,zpA h2] at hc
  exact hc
theorem zqK:∃ (T1 T2:List UInt8) (E:Int) (P1 P2:List UInt8),(∀ (w:World) [Glo w],Calls Tryz.prog 23 #[spv a1 a2,spv b1 b2] w (PRet w (.tuple #[spv T1 T2,.int .i64 E]))) /\
  (∀ w:World,Calls Tryz.prog 30 #[spv a1 a2,spv b1 b2] w (PRet w (spv P1 P2)))/\SpOk T1 T2 E 0 P1 P2:=by
 have o1:=(rd_ok h1).2.2
 have o2:=(rd_ok h2).2.2
 have f1:Sz (subI (rdI a1 a2) (rdI b1 b2)).1 (600+600+1):=za
 have f2:Sz (subI (rdI a1 a2) (rdI b1 b2)).2 (600+600+1):=za
 refine ⟨_,_,_,zad (subI (rdI a1 a2) (rdI b1 b2)).1,zad (subI (rdI a1 a2) (rdI b1 b2)).2,fun w _=>?_,fun w=>?_,zqB f1 f2 (by decide)⟩
 ·rw [<- zqN h1 h2 l m]
  exact zqQ (by omega) (by omega) (by omega) (by omega)
 ·have hc := zm6 (x := rdI a1 a2) (y := rdI b1 b2) (k := 600) (w := w) (by decide)
  rw [zpA h1,zpA h2] at hc
  exact hc
theorem zqH:∃ (T1 T2:List UInt8) (E:Int) (P1 P2:List UInt8),(∀ (w:World) [Glo w],Calls Tryz.prog 24 #[spv a1 a2,spv b1 b2] w (PRet w (.tuple #[spv T1 T2,.int .i64 E]))) /\
  (∀ w:World,Calls Tryz.prog 31 #[spv a1 a2,spv b1 b2] w (PRet w (spv P1 P2)))/\SpOk T1 T2 E 0 P1 P2:=by
 have f1:Sz (mulI (rdI a1 a2) (rdI b1 b2)).1 (600+600+1):=za
 have f2:Sz (mulI (rdI a1 a2) (rdI b1 b2)).2 (600+600+1):=za
 refine ⟨_,_,_,zad (mulI (rdI a1 a2) (rdI b1 b2)).1,zad (mulI (rdI a1 a2) (rdI b1 b2)).2,fun w _=>?_,fun w=>?_,zqB f1 f2 (by decide)⟩
 ·rw [<- zqN h1 h2 l m]
  exact zqE (by omega) (by omega) (by omega) (by omega)
 ·have hc := zjB (x := rdI a1 a2) (y := rdI b1 b2) (k := 600) (w := w) (by decide)
  rw [zpA h1,zpA h2] at hc
  exact hc
theorem zqJ:∃ (T1 T2:List UInt8) (E:Int),(∀ (w:World) [Glo w],Calls Tryz.prog 25 #[spv a1 a2,spv b1 b2] w (PRet w (.tuple #[spv T1 T2,.int .i64 E]))) /\
  ((hasZ (rdI b1 b2)=true/\SpOk T1 T2 E 6 a1 a2) ∨ (hasZ (rdI b1 b2)=false/\∃ P1 P2:List UInt8,(∀ w:World,Calls Tryz.prog 33 #[spv a1 a2,spv b1 b2] w (PRet w (spv P1 P2)))/\SpOk T1 T2 E 0 P1 P2)):=by
 have hE:spE2 a1 a2 b1 b2=0:=by unfold spE2; rw [h1,h2]; rfl
 cases hz:hasZ (rdI b1 b2)
 ·have o2 := (rd_ok h2).2.2
  have hn1:(rdI b1 b2).1 ≠ 0:=fun h=>by
   have:hasZ (rdI b1 b2)=true:=zgk.2 ⟨by rw [h]; exact Rat.le_refl,by have:=o2.out; rw [h] at this; exact this⟩
   rw [hz] at this; cases this
  have hn2:(rdI b1 b2).2 ≠ 0:=fun h=>by
   have:hasZ (rdI b1 b2)=true:=zgk.2 ⟨by have:=o2.out; rw [h] at this; exact this,by rw [h]; exact Rat.le_refl⟩
   rw [hz] at this; cases this
  have f1:Sz (divI (rdI a1 a2) (rdI b1 b2)).1 (600+600+1):=za
  have f2:Sz (divI (rdI a1 a2) (rdI b1 b2)).2 (600+600+1):=za
  refine ⟨wLo (divI (rdI a1 a2) (rdI b1 b2)),wHi (divI (rdI a1 a2) (rdI b1 b2)),wE2 (divI (rdI a1 a2) (rdI b1 b2)),fun w _=>?_,.inr ⟨rfl,zad (divI (rdI a1 a2) (rdI b1 b2)).1,zad (divI (rdI a1 a2) (rdI b1 b2)).2,fun w=>?_,zqB f1 f2 (by decide)⟩⟩
  ·have hc := zqG (w := w) (al := a1) (ah := a2) (bl := b1) (bh := b2) (by omega) (by omega) (by omega) (by omega)
   rw [show overV a1 a2 b1 b2=zbw (divI (rdI a1 a2) (rdI b1 b2)) by unfold overV; rw [if_pos hE,if_neg (by rw [hz]; decide)],zqA] at hc
   exact hc
  ·have hc := zq0 (x := rdI a1 a2) (y := rdI b1 b2) (k := 600) (w := w) (by decide) hn1 hn2
   rw [zpA h1,zpA h2] at hc
   exact hc
 ·refine ⟨[], [], 6, fun w _ => ?_, .inl ⟨rfl, zqy (by decide)⟩⟩
  have hc:=zqG (w:=w) (al:=a1) (ah:=a2) (bl:=b1) (bh:=b2) (by omega) (by omega) (by omega) (by omega)
  rw [show overV a1 a2 b1 b2=badS 6 by unfold overV; rw [if_pos hE,if_pos hz]] at hc
  exact hc
theorem zqO:∃ C E:Int,(∀ w:World,Calls Tryz.prog 26 #[spv a1 a2,spv b1 b2] w (PRet w (.tuple #[.int .i64 C,.int .i64 E])))/\(∀ w:World,Calls Tryz.prog 28 #[spv a1 a2,spv b1 b2] w (PRet w (.tuple #[.int .i64 C,.int .i64 E]))) /\
  (∀ w:World,Calls Tryz.prog 27 #[.int .i64 C,.int .i64 E,.int .i64 E,.int .i64 C] w (PRet w (.bool true))):=by
 have hE:spE2 a1 a2 b1 b2=0:=by unfold spE2; rw [h1,h2]; rfl
 obtain ⟨r1,r2,_⟩:=rd_ok h1
 obtain ⟨r3,r4,_⟩:=rd_ok h2
 refine ⟨ordC a1 a2 b1 b2,ordE a1 a2 b1 b2,fun w=>?_,fun w=>zqL (k:=600) (by decide) r1 r2 r3 r4,fun w=>?_⟩
 ·have hc := ziH (w := w) (al := a1) (ah := a2) (bl := b1) (bh := b2) (by omega) (by omega) (by omega) (by omega)
  rw [show ze0 a1 a2 b1 b2 = .tuple #[.int .i64 (ordC a1 a2 b1 b2),.int .i64 (ordE a1 a2 b1 b2)] by
   unfold ze0 ordC ordE
   rw [if_neg (fun h=>h hE)]
   by_cases c1:cmpQ (readQ a2) (readQ b1) < 0
   ·rw [if_pos c1,if_pos c1,if_pos c1]
   ·rw [if_neg c1, if_neg c1, if_neg c1]
    have e:0 < cmpQ (readQ a1) (readQ b2) ↔ cmpQ (readQ b2) (readQ a1) < 0:=by rw [zf4,zhl]
    by_cases c2:cmpQ (readQ b2) (readQ a1) < 0
    ·rw [if_pos (e.2 c2),if_pos c2,if_pos c2]
    ·rw [if_neg (fun h => c2 (e.1 h)), if_neg c2, if_neg c2]
     split <;> rfl] at hc
  exact hc
 ·by_cases h : ordE a1 a2 b1 b2 = 0
  ·rw [h]; exact integer_ok
  ·have hC:ordC a1 a2 b1 b2=0:=by
    unfold ordE at h
    unfold ordC
    split at h
    ·exact absurd rfl h
    ·rename_i c1
     rw [if_neg c1]
     split at h
     ·exact absurd rfl h
     ·rename_i c2; rw [if_neg c2]
   rw [hC]; exact integer_bad h
end
theorem zqP {BE:Int} (e8:spE2 a1 a2 b1 b2=BE) (hbe:BE ≠ 0) (l:a1.length <= 60/\a2.length <= 60) (m:b1.length <= 60/\b2.length <= 60):
  (∀ (w:World) [Glo w],Calls Tryz.prog 22 #[spv a1 a2,spv b1 b2] w (PRet w (.tuple #[spv [] [],.int .i64 BE])))/\(∀ (w:World) [Glo w],Calls Tryz.prog 23 #[spv a1 a2,spv b1 b2] w (PRet w (.tuple #[spv [] [],.int .i64 BE]))) /\
  (∀ (w:World) [Glo w],Calls Tryz.prog 24 #[spv a1 a2,spv b1 b2] w (PRet w (.tuple #[spv [] [],.int .i64 BE])))/\(∀ (w:World) [Glo w],Calls Tryz.prog 25 #[spv a1 a2,spv b1 b2] w (PRet w (.tuple #[spv [] [],.int .i64 BE]))) /\
  (∀ w:World,Calls Tryz.prog 26 #[spv a1 a2,spv b1 b2] w (PRet w (.tuple #[.int .i64 0,.int .i64 BE]))):=by
 have eo:∀ op,onS op a1 a2 b1 b2 = .tuple #[spv [] [],.int .i64 BE]:=fun op=>by unfold onS; rw [e8,if_neg hbe]; rfl
 have ev:overV a1 a2 b1 b2 = .tuple #[spv [] [],.int .i64 BE]:=by unfold overV; rw [e8,if_neg hbe]; rfl
 have ec:ze0 a1 a2 b1 b2 = .tuple #[.int .i64 0,.int .i64 BE]:=by unfold ze0; rw [e8,if_pos hbe]
 refine ⟨fun w _=>?_,fun w _=>?_,fun w _=>?_,fun w _=>?_,fun w=>?_⟩
 ·rw [<- eo addI]; exact zqV (by omega) (by omega) (by omega) (by omega)
 ·rw [<- eo subI]; exact zqQ (by omega) (by omega) (by omega) (by omega)
 ·rw [<- eo mulI]; exact zqE (by omega) (by omega) (by omega) (by omega)
 ·rw [<- ev]; exact zqG (by omega) (by omega) (by omega) (by omega)
 ·rw [<- ec]; exact ziH (by omega) (by omega) (by omega) (by omega)
end
end
section
open Go.Sort Go.Lib
section
variable {a1 a2 b1 b2:List UInt8} {k:Int} {w:World}
theorem zqw (HA:Hid zgf) [hg:Glo w] (h:wide4 a1 a2 b1 b2=true):
  Calls Tryz.prog 3 #[spv a1 a2,spv b1 b2,.int .i64 k] w (fun e w'=>e = .returned (.bool true)/\Below w.heap.size w w'):=by
 have HW:=zc h
 clear h
 go_enter Tryz.func3,Tryz.ntmps3
 go_wp2_with fail
 refine (HA.out _).mono ?_
 rintro e w1 ⟨rfl,hb1⟩
 have hx1:Nxt ((w.alloc (.cells #[str a1,str a2] 24)).alloc (.cells #[str b1,str b2] 24)) w1:=⟨hb1⟩
 have B1:Blk w1 w.heap.size 24 #[str a1,str a2]:=za
 have B2:Blk w1 (w.heap.size+1) 24 #[str b1,str b2]:=za
 have hw1:Nxt w w1:=zaa
 have hg1:Glo w1:=Glo.nxt (a:=w)
 clear hb1 hx1
 go_wp2_with fail
 refine zf (zgV (L:=[a1,a2,b1,b2]) rfl rfl (by omega)) ?_
 rw [show ([a1,a2,b1,b2].any fun x=>decide (60 < x.length))=true from HW.out]
 rintro e w2 ⟨rfl,hx2⟩
 have C1:Blk w2 w.heap.size 24 #[str a1,str a2]:=za
 have C2:Blk w2 (w.heap.size+1) 24 #[str b1,str b2]:=za
 have hw2:Nxt w w2:=zaa
 have hg2:Glo w2:=Glo.nxt (a:=w)
 clear B1 B2 hx2 hw1 hg1
 go_wp2_with fail
 refine (HA.out _).mono ?_
 rintro e w3 ⟨rfl,hb3⟩
 have hx3:Nxt w2 w3:=⟨hb3⟩
 clear hb3
 go_wp2_with fail
 go_ret
 exact ⟨rfl,(zaa:Nxt w w3).out⟩
theorem zqz (HA:Hid zgf) [hg:Glo w] (h:wide4 a1 a2 b1 b2=false):
  Calls Tryz.prog 3 #[spv a1 a2,spv b1 b2,.int .i64 k] w (fun e w'=>e = .returned (.bool true)/\Below w.heap.size w w'):=by
 have HW:=zc h
 obtain ⟨⟨l1,l2⟩,l3,l4⟩:=zqR h
 obtain ⟨T1,T2,ER,hrt,hrc⟩:=zqI (k:=k) (a2:=a2) l1
 have HRt:=zc hrt
 have HCk:Hid (∀ w,Calls _ _ _ w _):=zc (fun w=>zkL (l:=a1) (w:=w) (by omega))
 have HDc:Hid (∀ w,Calls _ _ _ w _):=zc (fun w=>zqD (k:=k) (w:=w))
 have HSg:Hid (readE a1=0 -> ∀ w,Calls _ _ #[str a1] w _):=zc (fun e w=>by
  have h:=zo5 (q:=readQ a1) (w:=w)
  rw [zf8 e] at h
  exact h)
 have HOr:Hid (readE a1=0 -> or2 (if decide (sgQ (readQ a1) < 0) then 3 else 0) (decE k)=rootE a1 k):=zc (fun e=>by
  have hR:rootE a1 k=if sgnI (readQ a1).num < 0 then 3 else decE k:=by unfold rootE; exact if_neg (fun h=>h e)
  rw [hR]
  by_cases hs:(readQ a1).num < 0
  ·rw [decide_eq_true (zjM.2 hs), if_pos (show sgnI (readQ a1).num < 0 by unfold sgnI; rw [if_pos hs]; decide)]
   rfl
  ·rw [decide_eq_false (fun h => hs (zjM.1 h)), if_neg (show ¬ sgnI (readQ a1).num < 0 by unfold sgnI; rw [if_neg hs]; split <;> decide)]
   rfl)
 have HRE:Hid (readE a1 ≠ 0 -> rootE a1 k=readE a1):=zc (fun e=>by unfold rootE; exact if_pos e)
 have HL:=zc (show a1.length <= 60/\a2.length <= 60/\b1.length <= 60/\b2.length <= 60 from ⟨l1,l2,l3,l4⟩)
 have HBad:Hid (∀ BE,spE2 a1 a2 b1 b2=BE -> BE ≠ 0 -> _):=zc (fun BE e8 hbe=>zqP (BE:=BE) e8 hbe ⟨l1,l2⟩ ⟨l3,l4⟩)
 obtain ⟨Q1,Q2,ES,hsqc,hsc⟩:=zqS (a1:=a1) (a2:=a2) l1 l2
 have HSq:=zc hsqc
 have HCs:Hid (∀ w,Calls _ _ _ w _):=zc (fun w=>zgg (a:=a1) (b:=a2) (w:=w) (by omega) (by omega))
 have HNs:Hid (∀ w,Calls _ _ _ w _):=zc (fun w=>zqF (l:=a1) (h:=a2) (w:=w) (by omega) (by omega))
 have HCb:Hid (∀ w,Calls _ _ _ w _):=zc (fun w=>zgg (a:=b1) (b:=b2) (w:=w) (by omega) (by omega))
 have HSA:Hid (spE a1 a2 ≠ 0 -> SpOk Q1 Q2 ES (spE a1 a2) a1 a2):=zc (fun h=>by
  rcases hsc with ⟨_,hq⟩ | ⟨hz,_⟩
  ·exact hq
  ·exact absurd hz h)
 have HSB:Hid (spE a1 a2=0 -> ∃ U1 U2:List UInt8,(∀ w:World,Calls Tryz.prog 21 #[spv a1 a2] w (PRet w (spv U1 U2)))/\SpOk Q1 Q2 ES 0 U1 U2):=zc (fun h=>by
  rcases hsc with ⟨hz,_⟩ | ⟨_,hq⟩
  ·exact absurd h hz
  ·exact hq)
 obtain ⟨SA,hSA⟩:∃ E,spE a1 a2=E:=⟨_,rfl⟩
 obtain ⟨SB,hSB⟩:∃ E,spE b1 b2=E:=⟨_,rfl⟩
 rw [hSA] at HCs HNs HSA HSB
 rw [hSB] at HCb
 have HS1:=zc hSA
 have HS2:=zc hSB
 obtain ⟨R,hR⟩:∃ R,rootE a1 k=R:=⟨_,rfl⟩
 rw [hR] at hrc HOr HRE
 obtain ⟨X,hX⟩:∃ X,readE a1=X:=⟨_,rfl⟩
 rw [hX] at HCk HSg HOr HRE
 obtain ⟨SG,hSG⟩:∃ SG,sgQ (readQ a1)=SG:=⟨_,rfl⟩
 rw [hSG] at HSg HOr
 obtain ⟨DK,hDK⟩:∃ DK,decE k=DK:=⟨_,rfl⟩
 rw [hDK] at HDc HOr
 clear hR hX hSG hDK hrt
 clear h hsc hSA hSB hsqc l1 l2 l3 l4
 go_enter Tryz.func3,Tryz.ntmps3
 go_wp2_with fail
 refine (HA.out _).mono ?_
 rintro e w1 ⟨rfl,hb1⟩
 have hx1:Nxt ((w.alloc (.cells #[str a1,str a2] 24)).alloc (.cells #[str b1,str b2] 24)) w1:=⟨hb1⟩
 have B1:Blk w1 w.heap.size 24 #[str a1,str a2]:=za
 have B2:Blk w1 (w.heap.size+1) 24 #[str b1,str b2]:=za
 have hw1:Nxt w w1:=zaa
 have hg1:Glo w1:=Glo.nxt (a:=w)
 clear hb1 hx1
 go_wp2_with fail
 refine zf (zgV (L:=[a1,a2,b1,b2]) rfl rfl (by omega)) ?_
 rw [show ([a1,a2,b1,b2].any fun x=>decide (60 < x.length))=false from HW.out]
 rintro e w2 ⟨rfl,hx2⟩
 have C1:Blk w2 w.heap.size 24 #[str a1,str a2]:=za
 have C2:Blk w2 (w.heap.size+1) 24 #[str b1,str b2]:=za
 have hw2:Nxt w w2:=zaa
 have hg2:Glo w2:=Glo.nxt (a:=w)
 clear B1 B2 hx2 hw1 hg1
 go_wp2_with fail
 refine zf (HRt.out _) ?_
 rintro e w3 ⟨rfl,hx3⟩
 have hw3:Nxt w w3:=zaa
 go_wp2_with fail
 refine zf (HCk.out _) ?_
 rintro e w4 ⟨rfl,hx4⟩
 by_cases hx0:X=0
 focus
  subst hx0
  have HSG:=zc (HSg.out rfl)
  have HORR:=zc (HOr.out rfl)
  clear HSg HOr HRE HCk
  go_wp2_with fail
  refine zf (HSG.out _) ?_
  rintro e w5 ⟨rfl,hx5⟩
  go_wp2_with fail
  refine zf (zq4) ?_
  rintro e w6 ⟨WS,rfl,hWS,hx6⟩
  have HWS:=zc hWS
  clear hWS
  go_wp2_with fail
  refine zf (HDc.out _) ?_
  rintro e w7 ⟨rfl,hx7⟩
  go_wp2_with fail
  refine zf (zgd) ?_
  rw [show or2 WS DK=R by rw [HWS.out]; exact HORR.out]
  rintro e wA ⟨rfl,hxA⟩
  have hw7:Nxt w w7:=zaa
  have D1:Blk wA w.heap.size 24 #[str a1,str a2]:=za
  have D2:Blk wA (w.heap.size+1) 24 #[str b1,str b2]:=za
  have D3:Blk wA w3.heap.size 24 #[str T1,str T2]:=za
  have hwA:Nxt w wA:=zaa
  have hgA:Glo wA:=Glo.nxt (a:=w)
  clear C1 C2 hx3 hx4 hx5 hx6 hx7 hxA hw7 hw2 hg2 hw3
  generalize w3.heap.size=g1 at *
  rcases hrc with ⟨hr,hsp⟩ | ⟨hr,P1,P2,hrr,hsp⟩
  focus
   have kr1:(R == 0)=false:=by simpa using hr
   have kr2:(R != 0)=true:=by simpa using hr
   clear hr HORR HSG HWS HDc HRt
   go_wp2_with fail
   refine Code.nameW ?_; intro W hW; have hu:undef=Value.tuple #[]:=rfl
   refine wp_region_held_drew (S:=fun w'=>ButO W [] w') (by kernel_rfl) ?_ (fun hHeld=>?_)
   ·exact zab
   (refine take_at (i:=0) (d:=some 61) (v:=?_) rfl rfl (by kernel_rfl) (by kernel_rfl) (by kernel_rfl) (fun _ _ _ h=>h) (Or.inl ⟨by rfl,?_⟩) (by assumption) ?_; rotate_left; (intro w hSw; (try dsimp only at hSw); go_simp); all_goals (try with_reducible rfl); try simp only [Act.put,zs0,zs1,zs2])
   (refine take_at (i:=1) (d:=some 62) (v:=?_) rfl rfl (by kernel_rfl) (by kernel_rfl) (by kernel_rfl) (fun _ _ _ h=>h) (Or.inl ⟨by rfl,?_⟩) (by assumption) ?_; rotate_left; (intro w hSw; (try dsimp only at hSw); go_simp); all_goals (try with_reducible rfl); try simp only [Act.put,zs0,zs1,zs2])
   (refine take_at (i:=2) (d:=some 63) (v:=?_) rfl rfl (by kernel_rfl) (by kernel_rfl) (by kernel_rfl) (fun _ _ _ h=>h) (Or.inl ⟨by rfl,?_⟩) (by assumption) ?_; rotate_left; (intro w hSw; (try dsimp only at hSw); go_simp); all_goals (try with_reducible rfl); try simp only [Act.put,zs0,zs1,zs2])
   (refine take_at (i:=3) (d:=some 64) (v:=?_) rfl rfl (by kernel_rfl) (by kernel_rfl) (by kernel_rfl) (fun _ _ _ h=>h) (Or.inl ⟨by rfl,?_⟩) (by assumption) ?_; rotate_left; (intro w hSw; (try dsimp only at hSw); go_simp); all_goals (try with_reducible rfl); try simp only [Act.put,zs0,zs1,zs2])
   (refine take_at (i:=4) (d:=some 65) (v:=?_) rfl rfl (by kernel_rfl) (by kernel_rfl) (by kernel_rfl) (fun _ _ _ h=>h) (Or.inl ⟨by rfl,?_⟩) (by assumption) ?_; rotate_left; (intro w hSw; (try dsimp only at hSw); go_simp); all_goals (try with_reducible rfl); try simp only [Act.put,zs0,zs1,zs2])
   (refine take_at (i:=5) (d:=some 66) (v:=?_) rfl rfl (by kernel_rfl) (by kernel_rfl) (by kernel_rfl) (fun _ _ _ h=>h) (Or.inl ⟨by rfl,?_⟩) (by assumption) ?_; rotate_left; (intro w hSw; (try dsimp only at hSw); go_simp); all_goals (try with_reducible rfl); try simp only [Act.put,zs0,zs1,zs2])
   (refine take_at (i:=6) (d:=some 67) (v:=?_) rfl rfl (by kernel_rfl) (by kernel_rfl) (by kernel_rfl) (fun _ _ _ h=>h) (Or.inl ⟨by rfl,?_⟩) (by assumption) ?_; rotate_left; (intro w hSw; (try dsimp only at hSw); go_simp); all_goals (try with_reducible rfl); try simp only [Act.put,zs0,zs1,zs2])
   (refine wpAnyH_ready (rs:=[7]) (by kernel_rfl) (by simp) ?_; refine AllReadyH.cons rfl (fun K hK=>?_) AllReadyH.nil; go_simp; (go_at_call 16; refine zf (spc_o) ?_; rintro e v1 ⟨rfl,_⟩); (try dsimp only); refine hK.out _ _ ?_ (fun hHeld2=>?_); (try dsimp only); (exact zab); clear hK K hHeld; have hHeld:=hHeld2; clear hHeld2; try simp only [Act.put,zs0,zs1,zs2])
   (refine take_at (i:=8) (d:=some 69) (v:=?_) rfl rfl (by kernel_rfl) (by kernel_rfl) (by kernel_rfl) (fun _ _ _ h=>h) (Or.inl ⟨by rfl,?_⟩) (by assumption) ?_; rotate_left; (intro w hSw; (try dsimp only at hSw); go_simp); all_goals (try with_reducible rfl); try simp only [Act.put,zs0,zs1,zs2])
   (refine take_at (i:=9) (d:=some 70) (v:=?_) rfl rfl (by kernel_rfl) (by kernel_rfl) (by kernel_rfl) (fun _ _ _ h=>h) (Or.inl ⟨by rfl,?_⟩) (by assumption) ?_; rotate_left; (intro w hSw; (try dsimp only at hSw); go_simp); all_goals (try with_reducible rfl); try simp only [Act.put,zs0,zs1,zs2])
   (refine take_at (i:=10) (d:=some 71) (v:=?_) rfl rfl (by kernel_rfl) (by kernel_rfl) (by kernel_rfl) (fun _ _ _ h=>h) (Or.inl ⟨by rfl,?_⟩) (by assumption) ?_; rotate_left; (intro w hSw; (try dsimp only at hSw); go_simp); all_goals (try with_reducible rfl); try simp only [Act.put,zs0,zs1,zs2])
   (refine take_at (i:=11) (d:=some 72) (v:=?_) rfl rfl (by kernel_rfl) (by kernel_rfl) (by kernel_rfl) (fun _ _ _ h=>h) (Or.inl ⟨by rfl,?_⟩) (by assumption) ?_; rotate_left; (intro w hSw; (try dsimp only at hSw); go_simp); all_goals (try with_reducible rfl); try simp only [Act.put,zs0,zs1,zs2])
   (refine take_at (i:=12) (d:=some 73) (v:=?_) rfl rfl (by kernel_rfl) (by kernel_rfl) (by kernel_rfl) (fun _ _ _ h=>h) (Or.inl ⟨by rfl,?_⟩) (by assumption) ?_; rotate_left; (intro w hSw; (try dsimp only at hSw); go_simp); all_goals (try with_reducible rfl); try simp only [Act.put,zs0,zs1,zs2])
   (refine take_at (i:=13) (d:=some 74) (v:=?_) rfl rfl (by kernel_rfl) (by kernel_rfl) (by kernel_rfl) (fun _ _ _ h=>h) (Or.inl ⟨by rfl,?_⟩) (by assumption) ?_; rotate_left; (intro w hSw; (try dsimp only at hSw); go_simp); all_goals (try with_reducible rfl); try simp only [Act.put,zs0,zs1,zs2])
   (refine take_at (i:=14) (d:=some 75) (v:=Value.tuple #[]) rfl rfl (by kernel_rfl) (by kernel_rfl) (by kernel_rfl) (fun _ _ _ h=>h) (Or.inr ⟨by rfl,rfl⟩) (by assumption) ?_; try simp only [Act.put,zs0,zs1,zs2])
   (refine take_at (i:=15) (d:=some 76) (v:=Value.tuple #[]) rfl rfl (by kernel_rfl) (by kernel_rfl) (by kernel_rfl) (fun _ _ _ h=>h) (Or.inr ⟨by rfl,rfl⟩) (by assumption) ?_; try simp only [Act.put,zs0,zs1,zs2])
   (refine take_at (i:=16) (d:=some 77) (v:=Value.tuple #[]) rfl rfl (by kernel_rfl) (by kernel_rfl) (by kernel_rfl) (fun _ _ _ h=>h) (Or.inr ⟨by rfl,rfl⟩) (by assumption) ?_; try simp only [Act.put,zs0,zs1,zs2])
   (refine take_at (i:=17) (d:=some 78) (v:=Value.tuple #[]) rfl rfl (by kernel_rfl) (by kernel_rfl) (by kernel_rfl) (fun _ _ _ h=>h) (Or.inr ⟨by rfl,rfl⟩) (by assumption) ?_; try simp only [Act.put,zs0,zs1,zs2])
   (refine take_at (i:=18) (d:=some 79) (v:=Value.tuple #[]) rfl rfl (by kernel_rfl) (by kernel_rfl) (by kernel_rfl) (fun _ _ _ h=>h) (Or.inr ⟨by rfl,rfl⟩) (by assumption) ?_; try simp only [Act.put,zs0,zs1,zs2])
   (refine take_at (i:=19) (d:=some 80) (v:=Value.tuple #[]) rfl rfl (by kernel_rfl) (by kernel_rfl) (by kernel_rfl) (fun _ _ _ h=>h) (Or.inr ⟨by rfl,rfl⟩) (by assumption) ?_; try simp only [Act.put,zs0,zs1,zs2])
   (refine take_at (i:=20) (d:=some 81) (v:=Value.tuple #[]) rfl rfl (by kernel_rfl) (by kernel_rfl) (by kernel_rfl) (fun _ _ _ h=>h) (Or.inr ⟨by rfl,rfl⟩) (by assumption) ?_; try simp only [Act.put,zs0,zs1,zs2])
   (refine take_at (i:=21) (d:=some 82) (v:=Value.tuple #[]) rfl rfl (by kernel_rfl) (by kernel_rfl) (by kernel_rfl) (fun _ _ _ h=>h) (Or.inr ⟨by rfl,rfl⟩) (by assumption) ?_; try simp only [Act.put,zs0,zs1,zs2])
   (refine take_at (i:=22) (d:=some 83) (v:=?_) rfl rfl (by kernel_rfl) (by kernel_rfl) (by kernel_rfl) (fun _ _ _ h=>h) (Or.inl ⟨by rfl,?_⟩) (by assumption) ?_; rotate_left; (intro w hSw; (try dsimp only at hSw); go_simp); all_goals (try with_reducible rfl); try simp only [Act.put,zs0,zs1,zs2])
   (refine take_at (i:=23) (d:=some 84) (v:=?_) rfl rfl (by kernel_rfl) (by kernel_rfl) (by kernel_rfl) (fun _ _ _ h=>h) (Or.inl ⟨by rfl,?_⟩) (by assumption) ?_; rotate_left; (intro w hSw; (try dsimp only at hSw); go_simp); all_goals (try with_reducible rfl); try simp only [Act.put,zs0,zs1,zs2])
   refine wpAnyH_done (by kernel_rfl) ?_ _
   clear D3 hsp kr1 kr2
  rotate_left
  focus
   subst hr
   have HRR:=zc hrr
   clear hrr HORR HSG HWS HDc HRt
   go_wp2_with fail
   refine Code.nameW ?_; intro W hW; have hu:undef=Value.tuple #[]:=rfl
   refine wp_region_held_drew (S:=fun w'=>ButO W [] w') (by kernel_rfl) ?_ (fun hHeld=>?_)
   ·exact zab
   (refine take_at (i:=0) (d:=some 61) (v:=?_) rfl rfl (by kernel_rfl) (by kernel_rfl) (by kernel_rfl) (fun _ _ _ h=>h) (Or.inl ⟨by rfl,?_⟩) (by assumption) ?_; rotate_left; (intro w hSw; (try dsimp only at hSw); go_simp); all_goals (try with_reducible rfl); try simp only [Act.put,zs0,zs1,zs2])
   (refine take_at (i:=1) (d:=some 62) (v:=?_) rfl rfl (by kernel_rfl) (by kernel_rfl) (by kernel_rfl) (fun _ _ _ h=>h) (Or.inl ⟨by rfl,?_⟩) (by assumption) ?_; rotate_left; (intro w hSw; (try dsimp only at hSw); go_simp); all_goals (try with_reducible rfl); try simp only [Act.put,zs0,zs1,zs2])
   (refine take_at (i:=2) (d:=some 63) (v:=?_) rfl rfl (by kernel_rfl) (by kernel_rfl) (by kernel_rfl) (fun _ _ _ h=>h) (Or.inl ⟨by rfl,?_⟩) (by assumption) ?_; rotate_left; (intro w hSw; (try dsimp only at hSw); go_simp); all_goals (try with_reducible rfl); try simp only [Act.put,zs0,zs1,zs2])
   (refine take_at (i:=3) (d:=some 64) (v:=Value.tuple #[]) rfl rfl (by kernel_rfl) (by kernel_rfl) (by kernel_rfl) (fun _ _ _ h=>h) (Or.inr ⟨by rfl,rfl⟩) (by assumption) ?_; try simp only [Act.put,zs0,zs1,zs2])
   (refine take_at (i:=4) (d:=some 65) (v:=Value.tuple #[]) rfl rfl (by kernel_rfl) (by kernel_rfl) (by kernel_rfl) (fun _ _ _ h=>h) (Or.inr ⟨by rfl,rfl⟩) (by assumption) ?_; try simp only [Act.put,zs0,zs1,zs2])
   (refine take_at (i:=5) (d:=some 66) (v:=Value.tuple #[]) rfl rfl (by kernel_rfl) (by kernel_rfl) (by kernel_rfl) (fun _ _ _ h=>h) (Or.inr ⟨by rfl,rfl⟩) (by assumption) ?_; try simp only [Act.put,zs0,zs1,zs2])
   (refine take_at (i:=6) (d:=some 67) (v:=Value.tuple #[]) rfl rfl (by kernel_rfl) (by kernel_rfl) (by kernel_rfl) (fun _ _ _ h=>h) (Or.inr ⟨by rfl,rfl⟩) (by assumption) ?_; try simp only [Act.put,zs0,zs1,zs2])
   (refine take_at (i:=7) (d:=some 68) (v:=Value.tuple #[]) rfl rfl (by kernel_rfl) (by kernel_rfl) (by kernel_rfl) (fun _ _ _ h=>h) (Or.inr ⟨by rfl,rfl⟩) (by assumption) ?_; try simp only [Act.put,zs0,zs1,zs2])
   (refine take_at (i:=8) (d:=some 69) (v:=Value.tuple #[]) rfl rfl (by kernel_rfl) (by kernel_rfl) (by kernel_rfl) (fun _ _ _ h=>h) (Or.inr ⟨by rfl,rfl⟩) (by assumption) ?_; try simp only [Act.put,zs0,zs1,zs2])
   (refine take_at (i:=9) (d:=some 70) (v:=?_) rfl rfl (by kernel_rfl) (by kernel_rfl) (by kernel_rfl) (fun _ _ _ h=>h) (Or.inl ⟨by rfl,?_⟩) (by assumption) ?_; rotate_left; (intro w hSw; (try dsimp only at hSw); go_simp); all_goals (try with_reducible rfl); try simp only [Act.put,zs0,zs1,zs2])
   (refine take_at (i:=10) (d:=some 71) (v:=?_) rfl rfl (by kernel_rfl) (by kernel_rfl) (by kernel_rfl) (fun _ _ _ h=>h) (Or.inl ⟨by rfl,?_⟩) (by assumption) ?_; rotate_left; (intro w hSw; (try dsimp only at hSw); go_simp); all_goals (try with_reducible rfl); try simp only [Act.put,zs0,zs1,zs2])
   (refine take_at (i:=11) (d:=some 72) (v:=?_) rfl rfl (by kernel_rfl) (by kernel_rfl) (by kernel_rfl) (fun _ _ _ h=>h) (Or.inl ⟨by rfl,?_⟩) (by assumption) ?_; rotate_left; (intro w hSw; (try dsimp only at hSw); go_simp); all_goals (try with_reducible rfl); try simp only [Act.put,zs0,zs1,zs2])
   (refine take_at (i:=12) (d:=some 73) (v:=?_) rfl rfl (by kernel_rfl) (by kernel_rfl) (by kernel_rfl) (fun _ _ _ h=>h) (Or.inl ⟨by rfl,?_⟩) (by assumption) ?_; rotate_left; (intro w hSw; (try dsimp only at hSw); go_simp); all_goals (try with_reducible rfl); try simp only [Act.put,zs0,zs1,zs2])
   (refine take_at (i:=13) (d:=some 74) (v:=?_) rfl rfl (by kernel_rfl) (by kernel_rfl) (by kernel_rfl) (fun _ _ _ h=>h) (Or.inl ⟨by rfl,?_⟩) (by assumption) ?_; rotate_left; (intro w hSw; (try dsimp only at hSw); go_simp); all_goals (try with_reducible rfl); try simp only [Act.put,zs0,zs1,zs2])
   (refine take_at (i:=14) (d:=some 75) (v:=?_) rfl rfl (by kernel_rfl) (by kernel_rfl) (by kernel_rfl) (fun _ _ _ h=>h) (Or.inl ⟨by rfl,?_⟩) (by assumption) ?_; rotate_left; (intro w hSw; (try dsimp only at hSw); go_simp); all_goals (try with_reducible rfl); try simp only [Act.put,zs0,zs1,zs2])
   (refine take_at (i:=15) (d:=some 76) (v:=?_) rfl rfl (by kernel_rfl) (by kernel_rfl) (by kernel_rfl) (fun _ _ _ h=>h) (Or.inl ⟨by rfl,?_⟩) (by assumption) ?_; rotate_left; (intro w hSw; (try dsimp only at hSw); go_simp); all_goals (try with_reducible rfl); try simp only [Act.put,zs0,zs1,zs2])
   (refine take_at (i:=16) (d:=some 77) (v:=?_) rfl rfl (by kernel_rfl) (by kernel_rfl) (by kernel_rfl) (fun _ _ _ h=>h) (Or.inl ⟨by rfl,?_⟩) (by assumption) ?_; rotate_left; (intro w hSw; (try dsimp only at hSw); go_simp); all_goals (try with_reducible rfl); try simp only [Act.put,zs0,zs1,zs2])
   (refine take_at (i:=17) (d:=some 78) (v:=?_) rfl rfl (by kernel_rfl) (by kernel_rfl) (by kernel_rfl) (fun _ _ _ h=>h) (Or.inl ⟨by rfl,?_⟩) (by assumption) ?_; rotate_left; (intro w hSw; (try dsimp only at hSw); go_simp); all_goals (try with_reducible rfl); try simp only [Act.put,zs0,zs1,zs2])
   (refine take_at (i:=18) (d:=some 79) (v:=?_) rfl rfl (by kernel_rfl) (by kernel_rfl) (by kernel_rfl) (fun _ _ _ h=>h) (Or.inl ⟨by rfl,?_⟩) (by assumption) ?_; rotate_left; (intro w hSw; (try dsimp only at hSw); go_simp); all_goals (try with_reducible rfl); try simp only [Act.put,zs0,zs1,zs2])
   (refine wpAnyH_ready (rs:=[19]) (by kernel_rfl) (by simp) ?_; refine AllReadyH.cons rfl (fun K hK=>?_) AllReadyH.nil; go_simp; (go_at_call 17; refine zf (HRR.out _) ?_; rintro e v1 ⟨rfl,_⟩); (try dsimp only); refine hK.out _ _ ?_ (fun hHeld2=>?_); (try dsimp only); (exact zab); clear hK K hHeld; have hHeld:=hHeld2; clear hHeld2; try simp only [Act.put,zs0,zs1,zs2])
   (refine wpAnyH_ready (rs:=[20]) (by kernel_rfl) (by simp) ?_; refine AllReadyH.cons rfl (fun K hK=>?_) AllReadyH.nil; go_simp; (go_at_call 16; refine zf (spc_o) ?_; rintro e v1 ⟨rfl,_⟩); (try dsimp only); refine hK.out _ _ ?_ (fun hHeld2=>?_); (try dsimp only); (exact zab); clear hK K hHeld; have hHeld:=hHeld2; clear hHeld2; try simp only [Act.put,zs0,zs1,zs2])
   (refine take_at (i:=21) (d:=some 82) (v:=?_) rfl rfl (by kernel_rfl) (by kernel_rfl) (by kernel_rfl) (fun _ _ _ h=>h) (Or.inl ⟨by rfl,?_⟩) (by assumption) ?_; rotate_left; (intro w hSw; (try dsimp only at hSw); go_simp); all_goals (try with_reducible rfl); try simp only [Act.put,zs0,zs1,zs2])
   (refine take_at (i:=22) (d:=some 83) (v:=?_) rfl rfl (by kernel_rfl) (by kernel_rfl) (by kernel_rfl) (fun _ _ _ h=>h) (Or.inl ⟨by rfl,?_⟩) (by assumption) ?_; rotate_left; (intro w hSw; (try dsimp only at hSw); go_simp); all_goals (try with_reducible rfl); try simp only [Act.put,zs0,zs1,zs2])
   (refine take_at (i:=23) (d:=some 84) (v:=?_) rfl rfl (by kernel_rfl) (by kernel_rfl) (by kernel_rfl) (fun _ _ _ h=>h) (Or.inl ⟨by rfl,?_⟩) (by assumption) ?_; rotate_left; (intro w hSw; (try dsimp only at hSw); go_simp); all_goals (try with_reducible rfl); try simp only [Act.put,zs0,zs1,zs2])
   refine wpAnyH_done (by kernel_rfl) ?_ _
   clear D3 hsp HRR
 rotate_left 2
 focus
  have hRX:=HRE.out hx0
  rcases hrc with ⟨hr,hsp⟩ | ⟨hr,_⟩
  rotate_left
  focus
   exact absurd (hRX.symm.trans hr) hx0
  have kr1:(R == 0)=false:=by simpa using hr
  have kr2:(R != 0)=true:=by simpa using hr
  subst hRX
  obtain ⟨wA,hwq⟩:∃ x,x=w4:=⟨w4,rfl⟩
  subst hwq
  have D1:Blk wA w.heap.size 24 #[str a1,str a2]:=za
  have D2:Blk wA (w.heap.size+1) 24 #[str b1,str b2]:=za
  have D3:Blk wA w3.heap.size 24 #[str T1,str T2]:=za
  have hwA:Nxt w wA:=zaa
  have hgA:Glo wA:=Glo.nxt (a:=w)
  clear C1 C2 hx3 hx4 hw2 hg2 hw3
  generalize w3.heap.size=g1 at *
  clear hr HSg HOr HRE HCk HDc HRt hx0
  go_wp2_with fail
  refine Code.nameW ?_; intro W hW; have hu:undef=Value.tuple #[]:=rfl
  refine wp_region_held_drew (S:=fun w'=>ButO W [] w') (by kernel_rfl) ?_ (fun hHeld=>?_)
  ·exact zab
  (refine take_at (i:=0) (d:=some 61) (v:=?_) rfl rfl (by kernel_rfl) (by kernel_rfl) (by kernel_rfl) (fun _ _ _ h=>h) (Or.inl ⟨by rfl,?_⟩) (by assumption) ?_; rotate_left; (intro w hSw; (try dsimp only at hSw); go_simp); all_goals (try with_reducible rfl); try simp only [Act.put,zs0,zs1,zs2])
  (refine take_at (i:=1) (d:=some 62) (v:=?_) rfl rfl (by kernel_rfl) (by kernel_rfl) (by kernel_rfl) (fun _ _ _ h=>h) (Or.inl ⟨by rfl,?_⟩) (by assumption) ?_; rotate_left; (intro w hSw; (try dsimp only at hSw); go_simp); all_goals (try with_reducible rfl); try simp only [Act.put,zs0,zs1,zs2])
  (refine take_at (i:=2) (d:=some 63) (v:=?_) rfl rfl (by kernel_rfl) (by kernel_rfl) (by kernel_rfl) (fun _ _ _ h=>h) (Or.inl ⟨by rfl,?_⟩) (by assumption) ?_; rotate_left; (intro w hSw; (try dsimp only at hSw); go_simp); all_goals (try with_reducible rfl); try simp only [Act.put,zs0,zs1,zs2])
  (refine take_at (i:=3) (d:=some 64) (v:=?_) rfl rfl (by kernel_rfl) (by kernel_rfl) (by kernel_rfl) (fun _ _ _ h=>h) (Or.inl ⟨by rfl,?_⟩) (by assumption) ?_; rotate_left; (intro w hSw; (try dsimp only at hSw); go_simp); all_goals (try with_reducible rfl); try simp only [Act.put,zs0,zs1,zs2])
  (refine take_at (i:=4) (d:=some 65) (v:=?_) rfl rfl (by kernel_rfl) (by kernel_rfl) (by kernel_rfl) (fun _ _ _ h=>h) (Or.inl ⟨by rfl,?_⟩) (by assumption) ?_; rotate_left; (intro w hSw; (try dsimp only at hSw); go_simp); all_goals (try with_reducible rfl); try simp only [Act.put,zs0,zs1,zs2])
  (refine take_at (i:=5) (d:=some 66) (v:=?_) rfl rfl (by kernel_rfl) (by kernel_rfl) (by kernel_rfl) (fun _ _ _ h=>h) (Or.inl ⟨by rfl,?_⟩) (by assumption) ?_; rotate_left; (intro w hSw; (try dsimp only at hSw); go_simp); all_goals (try with_reducible rfl); try simp only [Act.put,zs0,zs1,zs2])
  (refine take_at (i:=6) (d:=some 67) (v:=?_) rfl rfl (by kernel_rfl) (by kernel_rfl) (by kernel_rfl) (fun _ _ _ h=>h) (Or.inl ⟨by rfl,?_⟩) (by assumption) ?_; rotate_left; (intro w hSw; (try dsimp only at hSw); go_simp); all_goals (try with_reducible rfl); try simp only [Act.put,zs0,zs1,zs2])
  (refine wpAnyH_ready (rs:=[7]) (by kernel_rfl) (by simp) ?_; refine AllReadyH.cons rfl (fun K hK=>?_) AllReadyH.nil; go_simp; (go_at_call 16; refine zf (spc_o) ?_; rintro e v1 ⟨rfl,_⟩); (try dsimp only); refine hK.out _ _ ?_ (fun hHeld2=>?_); (try dsimp only); (exact zab); clear hK K hHeld; have hHeld:=hHeld2; clear hHeld2; try simp only [Act.put,zs0,zs1,zs2])
  (refine take_at (i:=8) (d:=some 69) (v:=?_) rfl rfl (by kernel_rfl) (by kernel_rfl) (by kernel_rfl) (fun _ _ _ h=>h) (Or.inl ⟨by rfl,?_⟩) (by assumption) ?_; rotate_left; (intro w hSw; (try dsimp only at hSw); go_simp); all_goals (try with_reducible rfl); try simp only [Act.put,zs0,zs1,zs2])
  (refine take_at (i:=9) (d:=some 70) (v:=?_) rfl rfl (by kernel_rfl) (by kernel_rfl) (by kernel_rfl) (fun _ _ _ h=>h) (Or.inl ⟨by rfl,?_⟩) (by assumption) ?_; rotate_left; (intro w hSw; (try dsimp only at hSw); go_simp); all_goals (try with_reducible rfl); try simp only [Act.put,zs0,zs1,zs2])
  (refine take_at (i:=10) (d:=some 71) (v:=?_) rfl rfl (by kernel_rfl) (by kernel_rfl) (by kernel_rfl) (fun _ _ _ h=>h) (Or.inl ⟨by rfl,?_⟩) (by assumption) ?_; rotate_left; (intro w hSw; (try dsimp only at hSw); go_simp); all_goals (try with_reducible rfl); try simp only [Act.put,zs0,zs1,zs2])
  (refine take_at (i:=11) (d:=some 72) (v:=?_) rfl rfl (by kernel_rfl) (by kernel_rfl) (by kernel_rfl) (fun _ _ _ h=>h) (Or.inl ⟨by rfl,?_⟩) (by assumption) ?_; rotate_left; (intro w hSw; (try dsimp only at hSw); go_simp); all_goals (try with_reducible rfl); try simp only [Act.put,zs0,zs1,zs2])
  (refine take_at (i:=12) (d:=some 73) (v:=?_) rfl rfl (by kernel_rfl) (by kernel_rfl) (by kernel_rfl) (fun _ _ _ h=>h) (Or.inl ⟨by rfl,?_⟩) (by assumption) ?_; rotate_left; (intro w hSw; (try dsimp only at hSw); go_simp); all_goals (try with_reducible rfl); try simp only [Act.put,zs0,zs1,zs2])
  (refine take_at (i:=13) (d:=some 74) (v:=?_) rfl rfl (by kernel_rfl) (by kernel_rfl) (by kernel_rfl) (fun _ _ _ h=>h) (Or.inl ⟨by rfl,?_⟩) (by assumption) ?_; rotate_left; (intro w hSw; (try dsimp only at hSw); go_simp); all_goals (try with_reducible rfl); try simp only [Act.put,zs0,zs1,zs2])
  (refine take_at (i:=14) (d:=some 75) (v:=Value.tuple #[]) rfl rfl (by kernel_rfl) (by kernel_rfl) (by kernel_rfl) (fun _ _ _ h=>h) (Or.inr ⟨by rfl,rfl⟩) (by assumption) ?_; try simp only [Act.put,zs0,zs1,zs2])
  (refine take_at (i:=15) (d:=some 76) (v:=Value.tuple #[]) rfl rfl (by kernel_rfl) (by kernel_rfl) (by kernel_rfl) (fun _ _ _ h=>h) (Or.inr ⟨by rfl,rfl⟩) (by assumption) ?_; try simp only [Act.put,zs0,zs1,zs2])
  (refine take_at (i:=16) (d:=some 77) (v:=Value.tuple #[]) rfl rfl (by kernel_rfl) (by kernel_rfl) (by kernel_rfl) (fun _ _ _ h=>h) (Or.inr ⟨by rfl,rfl⟩) (by assumption) ?_; try simp only [Act.put,zs0,zs1,zs2])
  (refine take_at (i:=17) (d:=some 78) (v:=Value.tuple #[]) rfl rfl (by kernel_rfl) (by kernel_rfl) (by kernel_rfl) (fun _ _ _ h=>h) (Or.inr ⟨by rfl,rfl⟩) (by assumption) ?_; try simp only [Act.put,zs0,zs1,zs2])
  (refine take_at (i:=18) (d:=some 79) (v:=Value.tuple #[]) rfl rfl (by kernel_rfl) (by kernel_rfl) (by kernel_rfl) (fun _ _ _ h=>h) (Or.inr ⟨by rfl,rfl⟩) (by assumption) ?_; try simp only [Act.put,zs0,zs1,zs2])
  (refine take_at (i:=19) (d:=some 80) (v:=Value.tuple #[]) rfl rfl (by kernel_rfl) (by kernel_rfl) (by kernel_rfl) (fun _ _ _ h=>h) (Or.inr ⟨by rfl,rfl⟩) (by assumption) ?_; try simp only [Act.put,zs0,zs1,zs2])
  (refine take_at (i:=20) (d:=some 81) (v:=Value.tuple #[]) rfl rfl (by kernel_rfl) (by kernel_rfl) (by kernel_rfl) (fun _ _ _ h=>h) (Or.inr ⟨by rfl,rfl⟩) (by assumption) ?_; try simp only [Act.put,zs0,zs1,zs2])
  (refine take_at (i:=21) (d:=some 82) (v:=Value.tuple #[]) rfl rfl (by kernel_rfl) (by kernel_rfl) (by kernel_rfl) (fun _ _ _ h=>h) (Or.inr ⟨by rfl,rfl⟩) (by assumption) ?_; try simp only [Act.put,zs0,zs1,zs2])
  (refine take_at (i:=22) (d:=some 83) (v:=?_) rfl rfl (by kernel_rfl) (by kernel_rfl) (by kernel_rfl) (fun _ _ _ h=>h) (Or.inl ⟨by rfl,?_⟩) (by assumption) ?_; rotate_left; (intro w hSw; (try dsimp only at hSw); go_simp); all_goals (try with_reducible rfl); try simp only [Act.put,zs0,zs1,zs2])
  (refine take_at (i:=23) (d:=some 84) (v:=?_) rfl rfl (by kernel_rfl) (by kernel_rfl) (by kernel_rfl) (fun _ _ _ h=>h) (Or.inl ⟨by rfl,?_⟩) (by assumption) ?_; rotate_left; (intro w hSw; (try dsimp only at hSw); go_simp); all_goals (try with_reducible rfl); try simp only [Act.put,zs0,zs1,zs2])
  refine wpAnyH_done (by kernel_rfl) ?_ _
  clear D3 hsp kr1 kr2
 all_goals (
  go_wp2_with fail
  refine zf (HSq.out _) ?_
  rintro e wB ⟨rfl,hxB⟩
  go_wp2_with fail
  refine zf (HCs.out _) ?_
  rintro e wC ⟨rfl,hxC⟩
  have K1:Blk wC w.heap.size 24 #[str a1,str a2]:=za
  have K2:Blk wC (w.heap.size+1) 24 #[str b1,str b2]:=za
  have K3:Blk wC wB.heap.size 24 #[str Q1,str Q2]:=za
  have hwC:Nxt w wC:=zaa
  have hgC:Glo wC:=Glo.nxt (a:=w)
  clear D1 D2 hwA hgA hxB hxC
  generalize wB.heap.size=g2 at *
  go_wp2_with fail
  by_cases h1:SA=0
  focus
   subst h1
   obtain ⟨U1,U2,hrs,hsq⟩:=HSB.out rfl
   have HRS:=zc hrs
   clear hrs HSA HSB
   refine Code.nameW ?_; intro W hW; have hu:undef=Value.tuple #[]:=rfl
   refine wp_region_held_drew (S:=fun w'=>ButO W [] w') (by kernel_rfl) ?_ (fun hHeld=>?_)
   ·exact zab
   (refine take_at (i:=0) (d:=some 92) (v:=?_) rfl rfl (by kernel_rfl) (by kernel_rfl) (by kernel_rfl) (fun _ _ _ h=>h) (Or.inl ⟨by rfl,?_⟩) (by assumption) ?_; rotate_left; (intro w hSw; (try dsimp only at hSw); go_simp); all_goals (try with_reducible rfl); try simp only [Act.put,zs0,zs1,zs2])
   (refine take_at (i:=2) (d:=some 94) (v:=?_) rfl rfl (by kernel_rfl) (by kernel_rfl) (by kernel_rfl) (fun _ _ _ h=>h) (Or.inl ⟨by rfl,?_⟩) (by assumption) ?_; rotate_left; (intro w hSw; (try dsimp only at hSw); go_simp); all_goals (try with_reducible rfl); try simp only [Act.put,zs0,zs1,zs2])
   (refine wpAnyH_ready (rs:=[1]) (by kernel_rfl) (by simp) ?_; refine AllReadyH.cons rfl (fun K hK=>?_) AllReadyH.nil; go_simp; (go_at_call 20; refine zf (HNs.out _) ?_; rintro e v1 ⟨rfl,_⟩); (try dsimp only); refine hK.out _ _ ?_ (fun hHeld2=>?_); (try dsimp only); (exact zab); clear hK K hHeld; have hHeld:=hHeld2; clear hHeld2; try simp only [Act.put,zs0,zs1,zs2])
   (refine take_at (i:=3) (d:=some 95) (v:=?_) rfl rfl (by kernel_rfl) (by kernel_rfl) (by kernel_rfl) (fun _ _ _ h=>h) (Or.inl ⟨by rfl,?_⟩) (by assumption) ?_; rotate_left; (intro w hSw; (try dsimp only at hSw); go_simp); all_goals (try with_reducible rfl); try simp only [Act.put,zs0,zs1,zs2])
   (refine take_at (i:=4) (d:=some 96) (v:=?_) rfl rfl (by kernel_rfl) (by kernel_rfl) (by kernel_rfl) (fun _ _ _ h=>h) (Or.inl ⟨by rfl,?_⟩) (by assumption) ?_; rotate_left; (intro w hSw; (try dsimp only at hSw); go_simp); all_goals (try with_reducible rfl); try simp only [Act.put,zs0,zs1,zs2])
   (refine take_at (i:=5) (d:=some 97) (v:=?_) rfl rfl (by kernel_rfl) (by kernel_rfl) (by kernel_rfl) (fun _ _ _ h=>h) (Or.inl ⟨by rfl,?_⟩) (by assumption) ?_; rotate_left; (intro w hSw; (try dsimp only at hSw); go_simp); all_goals (try with_reducible rfl); try simp only [Act.put,zs0,zs1,zs2])
   (refine take_at (i:=6) (d:=some 98) (v:=?_) rfl rfl (by kernel_rfl) (by kernel_rfl) (by kernel_rfl) (fun _ _ _ h=>h) (Or.inl ⟨by rfl,?_⟩) (by assumption) ?_; rotate_left; (intro w hSw; (try dsimp only at hSw); go_simp); all_goals (try with_reducible rfl); try simp only [Act.put,zs0,zs1,zs2])
   (refine take_at (i:=7) (d:=some 99) (v:=?_) rfl rfl (by kernel_rfl) (by kernel_rfl) (by kernel_rfl) (fun _ _ _ h=>h) (Or.inl ⟨by rfl,?_⟩) (by assumption) ?_; rotate_left; (intro w hSw; (try dsimp only at hSw); go_simp); all_goals (try with_reducible rfl); try simp only [Act.put,zs0,zs1,zs2])
   (refine take_at (i:=8) (d:=some 100) (v:=Value.tuple #[]) rfl rfl (by kernel_rfl) (by kernel_rfl) (by kernel_rfl) (fun _ _ _ h=>h) (Or.inr ⟨by rfl,rfl⟩) (by assumption) ?_; try simp only [Act.put,zs0,zs1,zs2])
   (refine take_at (i:=9) (d:=some 101) (v:=Value.tuple #[]) rfl rfl (by kernel_rfl) (by kernel_rfl) (by kernel_rfl) (fun _ _ _ h=>h) (Or.inr ⟨by rfl,rfl⟩) (by assumption) ?_; try simp only [Act.put,zs0,zs1,zs2])
   (refine take_at (i:=10) (d:=some 102) (v:=Value.tuple #[]) rfl rfl (by kernel_rfl) (by kernel_rfl) (by kernel_rfl) (fun _ _ _ h=>h) (Or.inr ⟨by rfl,rfl⟩) (by assumption) ?_; try simp only [Act.put,zs0,zs1,zs2])
   (refine take_at (i:=11) (d:=some 103) (v:=Value.tuple #[]) rfl rfl (by kernel_rfl) (by kernel_rfl) (by kernel_rfl) (fun _ _ _ h=>h) (Or.inr ⟨by rfl,rfl⟩) (by assumption) ?_; try simp only [Act.put,zs0,zs1,zs2])
   (refine take_at (i:=12) (d:=some 104) (v:=Value.tuple #[]) rfl rfl (by kernel_rfl) (by kernel_rfl) (by kernel_rfl) (fun _ _ _ h=>h) (Or.inr ⟨by rfl,rfl⟩) (by assumption) ?_; try simp only [Act.put,zs0,zs1,zs2])
   (refine take_at (i:=13) (d:=some 105) (v:=Value.tuple #[]) rfl rfl (by kernel_rfl) (by kernel_rfl) (by kernel_rfl) (fun _ _ _ h=>h) (Or.inr ⟨by rfl,rfl⟩) (by assumption) ?_; try simp only [Act.put,zs0,zs1,zs2])
   (refine take_at (i:=14) (d:=some 106) (v:=?_) rfl rfl (by kernel_rfl) (by kernel_rfl) (by kernel_rfl) (fun _ _ _ h=>h) (Or.inl ⟨by rfl,?_⟩) (by assumption) ?_; rotate_left; (intro w hSw; (try dsimp only at hSw); go_simp); all_goals (try with_reducible rfl); try simp only [Act.put,zs0,zs1,zs2])
   (refine take_at (i:=15) (d:=some 107) (v:=?_) rfl rfl (by kernel_rfl) (by kernel_rfl) (by kernel_rfl) (fun _ _ _ h=>h) (Or.inl ⟨by rfl,?_⟩) (by assumption) ?_; rotate_left; (intro w hSw; (try dsimp only at hSw); go_simp); all_goals (try with_reducible rfl); try simp only [Act.put,zs0,zs1,zs2])
   (refine take_at (i:=16) (d:=some 108) (v:=?_) rfl rfl (by kernel_rfl) (by kernel_rfl) (by kernel_rfl) (fun _ _ _ h=>h) (Or.inl ⟨by rfl,?_⟩) (by assumption) ?_; rotate_left; (intro w hSw; (try dsimp only at hSw); go_simp); all_goals (try with_reducible rfl); try simp only [Act.put,zs0,zs1,zs2])
   (refine take_at (i:=17) (d:=some 109) (v:=?_) rfl rfl (by kernel_rfl) (by kernel_rfl) (by kernel_rfl) (fun _ _ _ h=>h) (Or.inl ⟨by rfl,?_⟩) (by assumption) ?_; rotate_left; (intro w hSw; (try dsimp only at hSw); go_simp); all_goals (try with_reducible rfl); try simp only [Act.put,zs0,zs1,zs2])
   (refine take_at (i:=18) (d:=some 110) (v:=?_) rfl rfl (by kernel_rfl) (by kernel_rfl) (by kernel_rfl) (fun _ _ _ h=>h) (Or.inl ⟨by rfl,?_⟩) (by assumption) ?_; rotate_left; (intro w hSw; (try dsimp only at hSw); go_simp); all_goals (try with_reducible rfl); try simp only [Act.put,zs0,zs1,zs2])
   (refine take_at (i:=19) (d:=some 111) (v:=?_) rfl rfl (by kernel_rfl) (by kernel_rfl) (by kernel_rfl) (fun _ _ _ h=>h) (Or.inl ⟨by rfl,?_⟩) (by assumption) ?_; rotate_left; (intro w hSw; (try dsimp only at hSw); go_simp); all_goals (try with_reducible rfl); try simp only [Act.put,zs0,zs1,zs2])
   (refine take_at (i:=20) (d:=some 112) (v:=?_) rfl rfl (by kernel_rfl) (by kernel_rfl) (by kernel_rfl) (fun _ _ _ h=>h) (Or.inl ⟨by rfl,?_⟩) (by assumption) ?_; rotate_left; (intro w hSw; (try dsimp only at hSw); go_simp); all_goals (try with_reducible rfl); try simp only [Act.put,zs0,zs1,zs2])
   (refine take_at (i:=21) (d:=some 113) (v:=?_) rfl rfl (by kernel_rfl) (by kernel_rfl) (by kernel_rfl) (fun _ _ _ h=>h) (Or.inl ⟨by rfl,?_⟩) (by assumption) ?_; rotate_left; (intro w hSw; (try dsimp only at hSw); go_simp); all_goals (try with_reducible rfl); try simp only [Act.put,zs0,zs1,zs2])
   (refine take_at (i:=22) (d:=some 114) (v:=?_) rfl rfl (by kernel_rfl) (by kernel_rfl) (by kernel_rfl) (fun _ _ _ h=>h) (Or.inl ⟨by rfl,?_⟩) (by assumption) ?_; rotate_left; (intro w hSw; (try dsimp only at hSw); go_simp); all_goals (try with_reducible rfl); try simp only [Act.put,zs0,zs1,zs2])
   (refine wpAnyH_ready (rs:=[23]) (by kernel_rfl) (by simp) ?_; refine AllReadyH.cons rfl (fun K hK=>?_) AllReadyH.nil; go_simp; (go_at_call 21; refine zf (HRS.out _) ?_; rintro e v1 ⟨rfl,_⟩); (try dsimp only); refine hK.out _ _ ?_ (fun hHeld2=>?_); (try dsimp only); (exact zab); clear hK K hHeld; have hHeld:=hHeld2; clear hHeld2; try simp only [Act.put,zs0,zs1,zs2])
   (refine wpAnyH_ready (rs:=[24]) (by kernel_rfl) (by simp) ?_; refine AllReadyH.cons rfl (fun K hK=>?_) AllReadyH.nil; go_simp; (go_at_call 16; refine zf (spc_o) ?_; rintro e v1 ⟨rfl,_⟩); (try dsimp only); refine hK.out _ _ ?_ (fun hHeld2=>?_); (try dsimp only); (exact zab); clear hK K hHeld; have hHeld:=hHeld2; clear hHeld2; try simp only [Act.put,zs0,zs1,zs2])
   (refine take_at (i:=25) (d:=some 117) (v:=?_) rfl rfl (by kernel_rfl) (by kernel_rfl) (by kernel_rfl) (fun _ _ _ h=>h) (Or.inl ⟨by rfl,?_⟩) (by assumption) ?_; rotate_left; (intro w hSw; (try dsimp only at hSw); go_simp); all_goals (try with_reducible rfl); try simp only [Act.put,zs0,zs1,zs2])
   (refine take_at (i:=26) (d:=some 118) (v:=?_) rfl rfl (by kernel_rfl) (by kernel_rfl) (by kernel_rfl) (fun _ _ _ h=>h) (Or.inl ⟨by rfl,?_⟩) (by assumption) ?_; rotate_left; (intro w hSw; (try dsimp only at hSw); go_simp); all_goals (try with_reducible rfl); try simp only [Act.put,zs0,zs1,zs2])
   (refine take_at (i:=27) (d:=some 119) (v:=?_) rfl rfl (by kernel_rfl) (by kernel_rfl) (by kernel_rfl) (fun _ _ _ h=>h) (Or.inl ⟨by rfl,?_⟩) (by assumption) ?_; rotate_left; (intro w hSw; (try dsimp only at hSw); go_simp); all_goals (try with_reducible rfl); try simp only [Act.put,zs0,zs1,zs2])
   refine wpAnyH_done (by kernel_rfl) ?_ _
   clear K3 hsq HRS
   by_cases h2:SB=0
   focus
    subst h2
    have e1:=HS1.out
    have e2:=HS2.out
    obtain ⟨l1,l2,l3,l4⟩:=HL.out
    obtain ⟨p1,p2,EP,p3,p4,hp1,hp2,ip⟩:=zqM e1 e2 ⟨l1,l2⟩ ⟨l3,l4⟩
    obtain ⟨m1,m2,EM,m3,m4,hm1,hm2,im⟩:=zqK e1 e2 ⟨l1,l2⟩ ⟨l3,l4⟩
    obtain ⟨t1,t2,ET,t3,t4,ht1,ht2,it⟩:=zqH e1 e2 ⟨l1,l2⟩ ⟨l3,l4⟩
    obtain ⟨y1,y2,EV,hv1,hvc⟩:=zqJ e1 e2 ⟨l1,l2⟩ ⟨l3,l4⟩
    obtain ⟨CC,CE,hc1,hc2,hc3⟩:=zqO e1 e2 ⟨l1,l2⟩ ⟨l3,l4⟩
    have HPl:=zc hp1
    have HMi:=zc hm1
    have HTi:=zc ht1
    have HOv:=zc hv1
    have HCo:=zc hc1
    have HRP:=zc hp2
    have HRM:=zc hm2
    have HRT:=zc ht2
    have HRC:=zc hc2
    have HIn:=zc hc3
    have HHz:Hid (∀ w,Calls _ _ _ w _):=zc (fun w=>zqU (x:=rdI b1 b2) (k:=600) (w:=w) (by decide) (by decide))
    rw [zpA e2] at HHz
    have HVC:=zc hvc
    clear e1 e2 l1 l2 l3 l4 hp1 hp2 hm1 hm2 ht1 ht2 hv1 hvc hc1 hc2 hc3 HBad
    go_wp2_with fail
    refine zf (HPl.out _) ?_
    rintro e wD ⟨rfl,hxD⟩
    have hwD:Nxt w wD:=zaa
    have hgD:Glo wD:=Glo.nxt (a:=w)
    go_wp2_with fail
    refine zf (HMi.out _) ?_
    rintro e wE ⟨rfl,hxE⟩
    have hwE:Nxt w wE:=zaa
    have hgE:Glo wE:=Glo.nxt (a:=w)
    go_wp2_with fail
    refine zf (HTi.out _) ?_
    rintro e wF ⟨rfl,hxF⟩
    have hwF:Nxt w wF:=zaa
    have hgF:Glo wF:=Glo.nxt (a:=w)
    go_wp2_with fail
    refine zf (HOv.out _) ?_
    rintro e wG ⟨rfl,hxG⟩
    have hwG:Nxt w wG:=zaa
    have hgG:Glo wG:=Glo.nxt (a:=w)
    go_wp2_with fail
    refine zf (HCo.out _) ?_
    rintro e wH ⟨rfl,hxH⟩
    have hwH:Nxt w wH:=zaa
    go_wp2_with fail
    refine zf (HCb.out _) ?_
    rintro e wI ⟨rfl,hxI⟩
    have hwI:Nxt w wI:=zaa
    go_wp2_with fail
    refine zf (zgd) ?_
    rw [show or2 0 0=0 from rfl]
    rintro e wJ ⟨rfl,hxJ⟩
    have J1:Blk wJ w.heap.size 24 #[str a1,str a2]:=za
    have J2:Blk wJ (w.heap.size+1) 24 #[str b1,str b2]:=za
    have J3:Blk wJ wD.heap.size 24 #[str p1,str p2]:=za
    have J4:Blk wJ wE.heap.size 24 #[str m1,str m2]:=za
    have J5:Blk wJ wF.heap.size 24 #[str t1,str t2]:=za
    have J6:Blk wJ wG.heap.size 24 #[str y1,str y2]:=za
    have hwJ:Nxt w wJ:=zaa
    clear K1 K2 hwC hgC hxD hxE hxF hxG hxH hxI hxJ hwD hwE hwF hwG hwH hwI hgD hgE hgF hgG
    generalize wD.heap.size=g3 at *
    generalize wE.heap.size=g4 at *
    generalize wF.heap.size=g5 at *
    generalize wG.heap.size=g6 at *
    go_wp2_with fail
    refine zf (HRC.out _) ?_
    rintro e wK ⟨rfl,hxK⟩
    have L1:Blk wK w.heap.size 24 #[str a1,str a2]:=za
    have L2:Blk wK (w.heap.size+1) 24 #[str b1,str b2]:=za
    have L3:Blk wK g3 24 #[str p1,str p2]:=za
    have L4:Blk wK g4 24 #[str m1,str m2]:=za
    have L5:Blk wK g5 24 #[str t1,str t2]:=za
    have L6:Blk wK g6 24 #[str y1,str y2]:=za
    have hwK:Nxt w wK:=zaa
    clear J1 J2 J3 J4 J5 J6 hwJ hxK
    go_wp2_with fail
    refine Code.nameW ?_; intro W hW; have hu:undef=Value.tuple #[]:=rfl
    refine wp_region_held_drew (S:=fun w'=>ButO W [] w') (by kernel_rfl) ?_ (fun hHeld=>?_)
    ·exact zab
    (refine take_at (i:=0) (d:=some 195) (v:=?_) rfl rfl (by kernel_rfl) (by kernel_rfl) (by kernel_rfl) (fun _ _ _ h=>h) (Or.inl ⟨by rfl,?_⟩) (by assumption) ?_; rotate_left; (intro w hSw; (try dsimp only at hSw); go_simp); all_goals (try with_reducible rfl); try simp only [Act.put,zs0,zs1,zs2])
    (refine take_at (i:=1) (d:=some 196) (v:=?_) rfl rfl (by kernel_rfl) (by kernel_rfl) (by kernel_rfl) (fun _ _ _ h=>h) (Or.inl ⟨by rfl,?_⟩) (by assumption) ?_; rotate_left; (intro w hSw; (try dsimp only at hSw); go_simp); all_goals (try with_reducible rfl); try simp only [Act.put,zs0,zs1,zs2])
    (refine take_at (i:=2) (d:=some 197) (v:=?_) rfl rfl (by kernel_rfl) (by kernel_rfl) (by kernel_rfl) (fun _ _ _ h=>h) (Or.inl ⟨by rfl,?_⟩) (by assumption) ?_; rotate_left; (intro w hSw; (try dsimp only at hSw); go_simp); all_goals (try with_reducible rfl); try simp only [Act.put,zs0,zs1,zs2])
    (refine take_at (i:=3) (d:=some 198) (v:=?_) rfl rfl (by kernel_rfl) (by kernel_rfl) (by kernel_rfl) (fun _ _ _ h=>h) (Or.inl ⟨by rfl,?_⟩) (by assumption) ?_; rotate_left; (intro w hSw; (try dsimp only at hSw); go_simp); all_goals (try with_reducible rfl); try simp only [Act.put,zs0,zs1,zs2])
    (refine wpAnyH_ready (rs:=[4]) (by kernel_rfl) (by simp) ?_; refine AllReadyH.cons rfl (fun K hK=>?_) AllReadyH.nil; go_simp; (go_at_call 29; refine zf (HRP.out _) ?_; rintro e v1 ⟨rfl,_⟩); (try dsimp only); refine hK.out _ _ ?_ (fun hHeld2=>?_); (try dsimp only); (exact zab); clear hK K hHeld; have hHeld:=hHeld2; clear hHeld2; try simp only [Act.put,zs0,zs1,zs2])
    (refine wpAnyH_ready (rs:=[5]) (by kernel_rfl) (by simp) ?_; refine AllReadyH.cons rfl (fun K hK=>?_) AllReadyH.nil; go_simp; (go_at_call 16; refine zf (spc_o) ?_; rintro e v1 ⟨rfl,_⟩); (try dsimp only); refine hK.out _ _ ?_ (fun hHeld2=>?_); (try dsimp only); (exact zab); clear hK K hHeld; have hHeld:=hHeld2; clear hHeld2; try simp only [Act.put,zs0,zs1,zs2])
    (refine take_at (i:=6) (d:=some 201) (v:=?_) rfl rfl (by kernel_rfl) (by kernel_rfl) (by kernel_rfl) (fun _ _ _ h=>h) (Or.inl ⟨by rfl,?_⟩) (by assumption) ?_; rotate_left; (intro w hSw; (try dsimp only at hSw); go_simp); all_goals (try with_reducible rfl); try simp only [Act.put,zs0,zs1,zs2])
    (refine take_at (i:=7) (d:=some 202) (v:=?_) rfl rfl (by kernel_rfl) (by kernel_rfl) (by kernel_rfl) (fun _ _ _ h=>h) (Or.inl ⟨by rfl,?_⟩) (by assumption) ?_; rotate_left; (intro w hSw; (try dsimp only at hSw); go_simp); all_goals (try with_reducible rfl); try simp only [Act.put,zs0,zs1,zs2])
    (refine take_at (i:=8) (d:=some 203) (v:=?_) rfl rfl (by kernel_rfl) (by kernel_rfl) (by kernel_rfl) (fun _ _ _ h=>h) (Or.inl ⟨by rfl,?_⟩) (by assumption) ?_; rotate_left; (intro w hSw; (try dsimp only at hSw); go_simp); all_goals (try with_reducible rfl); try simp only [Act.put,zs0,zs1,zs2])
    (refine take_at (i:=9) (d:=some 204) (v:=?_) rfl rfl (by kernel_rfl) (by kernel_rfl) (by kernel_rfl) (fun _ _ _ h=>h) (Or.inl ⟨by rfl,?_⟩) (by assumption) ?_; rotate_left; (intro w hSw; (try dsimp only at hSw); go_simp); all_goals (try with_reducible rfl); try simp only [Act.put,zs0,zs1,zs2])
    (refine take_at (i:=10) (d:=some 205) (v:=?_) rfl rfl (by kernel_rfl) (by kernel_rfl) (by kernel_rfl) (fun _ _ _ h=>h) (Or.inl ⟨by rfl,?_⟩) (by assumption) ?_; rotate_left; (intro w hSw; (try dsimp only at hSw); go_simp); all_goals (try with_reducible rfl); try simp only [Act.put,zs0,zs1,zs2])
    (refine take_at (i:=11) (d:=some 206) (v:=?_) rfl rfl (by kernel_rfl) (by kernel_rfl) (by kernel_rfl) (fun _ _ _ h=>h) (Or.inl ⟨by rfl,?_⟩) (by assumption) ?_; rotate_left; (intro w hSw; (try dsimp only at hSw); go_simp); all_goals (try with_reducible rfl); try simp only [Act.put,zs0,zs1,zs2])
    (refine wpAnyH_ready (rs:=[12]) (by kernel_rfl) (by simp) ?_; refine AllReadyH.cons rfl (fun K hK=>?_) AllReadyH.nil; go_simp; (go_at_call 30; refine zf (HRM.out _) ?_; rintro e v1 ⟨rfl,_⟩); (try dsimp only); refine hK.out _ _ ?_ (fun hHeld2=>?_); (try dsimp only); (exact zab); clear hK K hHeld; have hHeld:=hHeld2; clear hHeld2; try simp only [Act.put,zs0,zs1,zs2])
    (refine wpAnyH_ready (rs:=[13]) (by kernel_rfl) (by simp) ?_; refine AllReadyH.cons rfl (fun K hK=>?_) AllReadyH.nil; go_simp; (go_at_call 16; refine zf (spc_o) ?_; rintro e v1 ⟨rfl,_⟩); (try dsimp only); refine hK.out _ _ ?_ (fun hHeld2=>?_); (try dsimp only); (exact zab); clear hK K hHeld; have hHeld:=hHeld2; clear hHeld2; try simp only [Act.put,zs0,zs1,zs2])
    (refine take_at (i:=14) (d:=some 209) (v:=?_) rfl rfl (by kernel_rfl) (by kernel_rfl) (by kernel_rfl) (fun _ _ _ h=>h) (Or.inl ⟨by rfl,?_⟩) (by assumption) ?_; rotate_left; (intro w hSw; (try dsimp only at hSw); go_simp); all_goals (try with_reducible rfl); try simp only [Act.put,zs0,zs1,zs2])
    (refine take_at (i:=15) (d:=some 210) (v:=?_) rfl rfl (by kernel_rfl) (by kernel_rfl) (by kernel_rfl) (fun _ _ _ h=>h) (Or.inl ⟨by rfl,?_⟩) (by assumption) ?_; rotate_left; (intro w hSw; (try dsimp only at hSw); go_simp); all_goals (try with_reducible rfl); try simp only [Act.put,zs0,zs1,zs2])
    (refine take_at (i:=16) (d:=some 211) (v:=?_) rfl rfl (by kernel_rfl) (by kernel_rfl) (by kernel_rfl) (fun _ _ _ h=>h) (Or.inl ⟨by rfl,?_⟩) (by assumption) ?_; rotate_left; (intro w hSw; (try dsimp only at hSw); go_simp); all_goals (try with_reducible rfl); try simp only [Act.put,zs0,zs1,zs2])
    (refine take_at (i:=17) (d:=some 212) (v:=?_) rfl rfl (by kernel_rfl) (by kernel_rfl) (by kernel_rfl) (fun _ _ _ h=>h) (Or.inl ⟨by rfl,?_⟩) (by assumption) ?_; rotate_left; (intro w hSw; (try dsimp only at hSw); go_simp); all_goals (try with_reducible rfl); try simp only [Act.put,zs0,zs1,zs2])
    (refine take_at (i:=18) (d:=some 213) (v:=?_) rfl rfl (by kernel_rfl) (by kernel_rfl) (by kernel_rfl) (fun _ _ _ h=>h) (Or.inl ⟨by rfl,?_⟩) (by assumption) ?_; rotate_left; (intro w hSw; (try dsimp only at hSw); go_simp); all_goals (try with_reducible rfl); try simp only [Act.put,zs0,zs1,zs2])
    (refine take_at (i:=19) (d:=some 214) (v:=?_) rfl rfl (by kernel_rfl) (by kernel_rfl) (by kernel_rfl) (fun _ _ _ h=>h) (Or.inl ⟨by rfl,?_⟩) (by assumption) ?_; rotate_left; (intro w hSw; (try dsimp only at hSw); go_simp); all_goals (try with_reducible rfl); try simp only [Act.put,zs0,zs1,zs2])
    (refine take_at (i:=20) (d:=some 215) (v:=?_) rfl rfl (by kernel_rfl) (by kernel_rfl) (by kernel_rfl) (fun _ _ _ h=>h) (Or.inl ⟨by rfl,?_⟩) (by assumption) ?_; rotate_left; (intro w hSw; (try dsimp only at hSw); go_simp); all_goals (try with_reducible rfl); try simp only [Act.put,zs0,zs1,zs2])
    (refine wpAnyH_ready (rs:=[21]) (by kernel_rfl) (by simp) ?_; refine AllReadyH.cons rfl (fun K hK=>?_) AllReadyH.nil; go_simp; (go_at_call 31; refine zf (HRT.out _) ?_; rintro e v1 ⟨rfl,_⟩); (try dsimp only); refine hK.out _ _ ?_ (fun hHeld2=>?_); (try dsimp only); (exact zab); clear hK K hHeld; have hHeld:=hHeld2; clear hHeld2; try simp only [Act.put,zs0,zs1,zs2])
    (refine wpAnyH_ready (rs:=[22]) (by kernel_rfl) (by simp) ?_; refine AllReadyH.cons rfl (fun K hK=>?_) AllReadyH.nil; go_simp; (go_at_call 16; refine zf (spc_o) ?_; rintro e v1 ⟨rfl,_⟩); (try dsimp only); refine hK.out _ _ ?_ (fun hHeld2=>?_); (try dsimp only); (exact zab); clear hK K hHeld; have hHeld:=hHeld2; clear hHeld2; try simp only [Act.put,zs0,zs1,zs2])
    (refine take_at (i:=23) (d:=some 218) (v:=?_) rfl rfl (by kernel_rfl) (by kernel_rfl) (by kernel_rfl) (fun _ _ _ h=>h) (Or.inl ⟨by rfl,?_⟩) (by assumption) ?_; rotate_left; (intro w hSw; (try dsimp only at hSw); go_simp); all_goals (try with_reducible rfl); try simp only [Act.put,zs0,zs1,zs2])
    (refine take_at (i:=24) (d:=some 219) (v:=?_) rfl rfl (by kernel_rfl) (by kernel_rfl) (by kernel_rfl) (fun _ _ _ h=>h) (Or.inl ⟨by rfl,?_⟩) (by assumption) ?_; rotate_left; (intro w hSw; (try dsimp only at hSw); go_simp); all_goals (try with_reducible rfl); try simp only [Act.put,zs0,zs1,zs2])
    (refine take_at (i:=25) (d:=some 220) (v:=?_) rfl rfl (by kernel_rfl) (by kernel_rfl) (by kernel_rfl) (fun _ _ _ h=>h) (Or.inl ⟨by rfl,?_⟩) (by assumption) ?_; rotate_left; (intro w hSw; (try dsimp only at hSw); go_simp); all_goals (try with_reducible rfl); try simp only [Act.put,zs0,zs1,zs2])
    (refine take_at (i:=26) (d:=some 221) (v:=?_) rfl rfl (by kernel_rfl) (by kernel_rfl) (by kernel_rfl) (fun _ _ _ h=>h) (Or.inl ⟨by rfl,?_⟩) (by assumption) ?_; rotate_left; (intro w hSw; (try dsimp only at hSw); go_simp); all_goals (try with_reducible rfl); try simp only [Act.put,zs0,zs1,zs2])
    (refine take_at (i:=27) (d:=some 222) (v:=?_) rfl rfl (by kernel_rfl) (by kernel_rfl) (by kernel_rfl) (fun _ _ _ h=>h) (Or.inl ⟨by rfl,?_⟩) (by assumption) ?_; rotate_left; (intro w hSw; (try dsimp only at hSw); go_simp); all_goals (try with_reducible rfl); try simp only [Act.put,zs0,zs1,zs2])
    (refine take_at (i:=28) (d:=some 223) (v:=?_) rfl rfl (by kernel_rfl) (by kernel_rfl) (by kernel_rfl) (fun _ _ _ h=>h) (Or.inl ⟨by rfl,?_⟩) (by assumption) ?_; rotate_left; (intro w hSw; (try dsimp only at hSw); go_simp); all_goals (try with_reducible rfl); try simp only [Act.put,zs0,zs1,zs2])
    (refine take_at (i:=29) (d:=some 224) (v:=?_) rfl rfl (by kernel_rfl) (by kernel_rfl) (by kernel_rfl) (fun _ _ _ h=>h) (Or.inl ⟨by rfl,?_⟩) (by assumption) ?_; rotate_left; (intro w hSw; (try dsimp only at hSw); go_simp); all_goals (try with_reducible rfl); try simp only [Act.put,zs0,zs1,zs2])
    (refine wpAnyH_ready (rs:=[30]) (by kernel_rfl) (by simp) ?_; refine AllReadyH.cons rfl (fun K hK=>?_) AllReadyH.nil; go_simp; (go_at_call 27; refine zf (HIn.out _) ?_; rintro e v1 ⟨rfl,_⟩); (try dsimp only); refine hK.out _ _ ?_ (fun hHeld2=>?_); (try dsimp only); (exact zab); clear hK K hHeld; have hHeld:=hHeld2; clear hHeld2; try simp only [Act.put,zs0,zs1,zs2])
    (refine take_at (i:=31) (d:=some 226) (v:=?_) rfl rfl (by kernel_rfl) (by kernel_rfl) (by kernel_rfl) (fun _ _ _ h=>h) (Or.inl ⟨by rfl,?_⟩) (by assumption) ?_; rotate_left; (intro w hSw; (try dsimp only at hSw); go_simp); all_goals (try with_reducible rfl); try simp only [Act.put,zs0,zs1,zs2])
    (refine take_at (i:=32) (d:=some 227) (v:=?_) rfl rfl (by kernel_rfl) (by kernel_rfl) (by kernel_rfl) (fun _ _ _ h=>h) (Or.inl ⟨by rfl,?_⟩) (by assumption) ?_; rotate_left; (intro w hSw; (try dsimp only at hSw); go_simp); all_goals (try with_reducible rfl); try simp only [Act.put,zs0,zs1,zs2])
    refine wpAnyH_done (by kernel_rfl) ?_ _
    rcases HVC.out with ⟨hz,iv⟩ | ⟨hz,o1,o2,ho,iv⟩
    focus
     rw [hz] at HHz
     clear HVC hz
     go_wp2_with fail
     refine zf (HHz.out _) ?_
     rintro e wL ⟨rfl,hxL⟩
     go_wp2_with ((first | (go_at_call 16; refine zf (spc_o) ?_; rintro e v1 ⟨rfl,_⟩)))
     go_ret
     exact ⟨rfl,(zaa:Nxt w _).out⟩
    have HRO:=zc ho
    rw [hz] at HHz
    clear HVC hz ho
    go_wp2_with fail
    refine zf (HHz.out _) ?_
    rintro e wL ⟨rfl,hxL⟩
    go_wp2_with fail
    (refine Code.nameW ?_; intro W hW; go_region_held3 (fun w'=>ButO W [] w') (exact zab) (((first | (go_at_call 33; refine zf (HRO.out _) ?_; rintro e v1 ⟨rfl,_⟩) | (go_at_call 16; refine zf (spc_o) ?_; rintro e v1 ⟨rfl,_⟩)))))
    all_goals go_wp2_with fail
    all_goals go_ret
    all_goals exact ⟨rfl,(zaa:Nxt w _).out⟩
   have hbe:SB ≠ 0:=h2
   clear h2
   obtain ⟨hp,hm,ht,ho,hc⟩:=HBad.out SB (by unfold spE2; rw [HS1.out,HS2.out]; rfl) hbe
   have HPl:=zc hp
   have HMi:=zc hm
   have HTi:=zc ht
   have HOv:=zc ho
   have HCo:=zc hc
   have ib:SpOk [] [] SB SB a1 a2:=zqy hbe
   have HIb:Hid (∀ w,Calls _ _ _ w _):=zc (fun w=>integer_bad (E:=SB) (z:=0) (w:=w) hbe)
   have HOO:Hid (or2 0 SB=SB):=zc (if_pos rfl)
   have kb1:(SB == 0)=false:=by simpa using hbe
   have kb2:(SB != 0)=true:=by simpa using hbe
   clear hp hm ht ho hc hbe HBad
   go_wp2_with fail
   refine zf (HPl.out _) ?_
   rintro e wD ⟨rfl,hxD⟩
   have hwD:Nxt w wD:=zaa
   have hgD:Glo wD:=Glo.nxt (a:=w)
   go_wp2_with fail
   refine zf (HMi.out _) ?_
   rintro e wE ⟨rfl,hxE⟩
   have hwE:Nxt w wE:=zaa
   have hgE:Glo wE:=Glo.nxt (a:=w)
   go_wp2_with fail
   refine zf (HTi.out _) ?_
   rintro e wF ⟨rfl,hxF⟩
   have hwF:Nxt w wF:=zaa
   have hgF:Glo wF:=Glo.nxt (a:=w)
   go_wp2_with fail
   refine zf (HOv.out _) ?_
   rintro e wG ⟨rfl,hxG⟩
   have hwG:Nxt w wG:=zaa
   have hgG:Glo wG:=Glo.nxt (a:=w)
   go_wp2_with fail
   refine zf (HCo.out _) ?_
   rintro e wH ⟨rfl,hxH⟩
   have hwH:Nxt w wH:=zaa
   go_wp2_with fail
   refine zf (HCb.out _) ?_
   rintro e wI ⟨rfl,hxI⟩
   have hwI:Nxt w wI:=zaa
   go_wp2_with fail
   refine zf (zgd) ?_
   rw [HOO.out]
   rintro e wJ ⟨rfl,hxJ⟩
   have J1:Blk wJ w.heap.size 24 #[str a1,str a2]:=za
   have J2:Blk wJ (w.heap.size+1) 24 #[str b1,str b2]:=za
   have J3:Blk wJ wD.heap.size 24 #[str [],str []]:=za
   have J4:Blk wJ wE.heap.size 24 #[str [],str []]:=za
   have J5:Blk wJ wF.heap.size 24 #[str [],str []]:=za
   have J6:Blk wJ wG.heap.size 24 #[str [],str []]:=za
   have hwJ:Nxt w wJ:=zaa
   clear K1 K2 hwC hgC hxD hxE hxF hxG hxH hxI hxJ hwD hwE hwF hwG hwH hwI hgD hgE hgF hgG
   generalize wD.heap.size=g3 at *
   generalize wE.heap.size=g4 at *
   generalize wF.heap.size=g5 at *
   generalize wG.heap.size=g6 at *
   go_wp2_with ((first | (go_at_call 16; refine zf (spc_o) ?_; rintro e v1 ⟨rfl,_⟩) | (go_at_call 27; refine zf (HIb.out _) ?_; rintro e v1 ⟨rfl,_⟩)))
   go_ret
   exact ⟨rfl,(zaa:Nxt w _).out⟩
  have hbe:SA ≠ 0:=h1
  have hsq:=HSA.out h1
  have ks1:(SA == 0)=false:=by simpa using h1
  have ks2:(SA != 0)=true:=by simpa using h1
  clear h1 HSA HSB
  refine Code.nameW ?_; intro W hW; have hu:undef=Value.tuple #[]:=rfl
  refine wp_region_held_drew (S:=fun w'=>ButO W [] w') (by kernel_rfl) ?_ (fun hHeld=>?_)
  ·exact zab
  (refine take_at (i:=0) (d:=some 92) (v:=?_) rfl rfl (by kernel_rfl) (by kernel_rfl) (by kernel_rfl) (fun _ _ _ h=>h) (Or.inl ⟨by rfl,?_⟩) (by assumption) ?_; rotate_left; (intro w hSw; (try dsimp only at hSw); go_simp); all_goals (try with_reducible rfl); try simp only [Act.put,zs0,zs1,zs2])
  (refine take_at (i:=2) (d:=some 94) (v:=?_) rfl rfl (by kernel_rfl) (by kernel_rfl) (by kernel_rfl) (fun _ _ _ h=>h) (Or.inl ⟨by rfl,?_⟩) (by assumption) ?_; rotate_left; (intro w hSw; (try dsimp only at hSw); go_simp); all_goals (try with_reducible rfl); try simp only [Act.put,zs0,zs1,zs2])
  (refine wpAnyH_ready (rs:=[1]) (by kernel_rfl) (by simp) ?_; refine AllReadyH.cons rfl (fun K hK=>?_) AllReadyH.nil; go_simp; (go_at_call 20; refine zf (HNs.out _) ?_; rintro e v1 ⟨rfl,_⟩); (try dsimp only); refine hK.out _ _ ?_ (fun hHeld2=>?_); (try dsimp only); (exact zab); clear hK K hHeld; have hHeld:=hHeld2; clear hHeld2; try simp only [Act.put,zs0,zs1,zs2])
  (refine take_at (i:=3) (d:=some 95) (v:=?_) rfl rfl (by kernel_rfl) (by kernel_rfl) (by kernel_rfl) (fun _ _ _ h=>h) (Or.inl ⟨by rfl,?_⟩) (by assumption) ?_; rotate_left; (intro w hSw; (try dsimp only at hSw); go_simp); all_goals (try with_reducible rfl); try simp only [Act.put,zs0,zs1,zs2])
  (refine take_at (i:=4) (d:=some 96) (v:=?_) rfl rfl (by kernel_rfl) (by kernel_rfl) (by kernel_rfl) (fun _ _ _ h=>h) (Or.inl ⟨by rfl,?_⟩) (by assumption) ?_; rotate_left; (intro w hSw; (try dsimp only at hSw); go_simp); all_goals (try with_reducible rfl); try simp only [Act.put,zs0,zs1,zs2])
  (refine take_at (i:=5) (d:=some 97) (v:=?_) rfl rfl (by kernel_rfl) (by kernel_rfl) (by kernel_rfl) (fun _ _ _ h=>h) (Or.inl ⟨by rfl,?_⟩) (by assumption) ?_; rotate_left; (intro w hSw; (try dsimp only at hSw); go_simp); all_goals (try with_reducible rfl); try simp only [Act.put,zs0,zs1,zs2])
  (refine take_at (i:=6) (d:=some 98) (v:=?_) rfl rfl (by kernel_rfl) (by kernel_rfl) (by kernel_rfl) (fun _ _ _ h=>h) (Or.inl ⟨by rfl,?_⟩) (by assumption) ?_; rotate_left; (intro w hSw; (try dsimp only at hSw); go_simp); all_goals (try with_reducible rfl); try simp only [Act.put,zs0,zs1,zs2])
  (refine take_at (i:=7) (d:=some 99) (v:=?_) rfl rfl (by kernel_rfl) (by kernel_rfl) (by kernel_rfl) (fun _ _ _ h=>h) (Or.inl ⟨by rfl,?_⟩) (by assumption) ?_; rotate_left; (intro w hSw; (try dsimp only at hSw); go_simp); all_goals (try with_reducible rfl); try simp only [Act.put,zs0,zs1,zs2])
  (refine take_at (i:=8) (d:=some 100) (v:=?_) rfl rfl (by kernel_rfl) (by kernel_rfl) (by kernel_rfl) (fun _ _ _ h=>h) (Or.inl ⟨by rfl,?_⟩) (by assumption) ?_; rotate_left; (intro w hSw; (try dsimp only at hSw); go_simp); all_goals (try with_reducible rfl); try simp only [Act.put,zs0,zs1,zs2])
  (refine take_at (i:=9) (d:=some 101) (v:=?_) rfl rfl (by kernel_rfl) (by kernel_rfl) (by kernel_rfl) (fun _ _ _ h=>h) (Or.inl ⟨by rfl,?_⟩) (by assumption) ?_; rotate_left; (intro w hSw; (try dsimp only at hSw); go_simp); all_goals (try with_reducible rfl); try simp only [Act.put,zs0,zs1,zs2])
  (refine take_at (i:=10) (d:=some 102) (v:=?_) rfl rfl (by kernel_rfl) (by kernel_rfl) (by kernel_rfl) (fun _ _ _ h=>h) (Or.inl ⟨by rfl,?_⟩) (by assumption) ?_; rotate_left; (intro w hSw; (try dsimp only at hSw); go_simp); all_goals (try with_reducible rfl); try simp only [Act.put,zs0,zs1,zs2])
  (refine take_at (i:=11) (d:=some 103) (v:=?_) rfl rfl (by kernel_rfl) (by kernel_rfl) (by kernel_rfl) (fun _ _ _ h=>h) (Or.inl ⟨by rfl,?_⟩) (by assumption) ?_; rotate_left; (intro w hSw; (try dsimp only at hSw); go_simp); all_goals (try with_reducible rfl); try simp only [Act.put,zs0,zs1,zs2])
  (refine wpAnyH_ready (rs:=[12]) (by kernel_rfl) (by simp) ?_; refine AllReadyH.cons rfl (fun K hK=>?_) AllReadyH.nil; go_simp; (go_at_call 16; refine zf (spc_o) ?_; rintro e v1 ⟨rfl,_⟩); (try dsimp only); refine hK.out _ _ ?_ (fun hHeld2=>?_); (try dsimp only); (exact zab); clear hK K hHeld; have hHeld:=hHeld2; clear hHeld2; try simp only [Act.put,zs0,zs1,zs2])
  (refine take_at (i:=13) (d:=some 105) (v:=?_) rfl rfl (by kernel_rfl) (by kernel_rfl) (by kernel_rfl) (fun _ _ _ h=>h) (Or.inl ⟨by rfl,?_⟩) (by assumption) ?_; rotate_left; (intro w hSw; (try dsimp only at hSw); go_simp); all_goals (try with_reducible rfl); try simp only [Act.put,zs0,zs1,zs2])
  (refine take_at (i:=14) (d:=some 106) (v:=?_) rfl rfl (by kernel_rfl) (by kernel_rfl) (by kernel_rfl) (fun _ _ _ h=>h) (Or.inl ⟨by rfl,?_⟩) (by assumption) ?_; rotate_left; (intro w hSw; (try dsimp only at hSw); go_simp); all_goals (try with_reducible rfl); try simp only [Act.put,zs0,zs1,zs2])
  (refine take_at (i:=15) (d:=some 107) (v:=?_) rfl rfl (by kernel_rfl) (by kernel_rfl) (by kernel_rfl) (fun _ _ _ h=>h) (Or.inl ⟨by rfl,?_⟩) (by assumption) ?_; rotate_left; (intro w hSw; (try dsimp only at hSw); go_simp); all_goals (try with_reducible rfl); try simp only [Act.put,zs0,zs1,zs2])
  (refine take_at (i:=16) (d:=some 108) (v:=?_) rfl rfl (by kernel_rfl) (by kernel_rfl) (by kernel_rfl) (fun _ _ _ h=>h) (Or.inl ⟨by rfl,?_⟩) (by assumption) ?_; rotate_left; (intro w hSw; (try dsimp only at hSw); go_simp); all_goals (try with_reducible rfl); try simp only [Act.put,zs0,zs1,zs2])
  (refine take_at (i:=17) (d:=some 109) (v:=?_) rfl rfl (by kernel_rfl) (by kernel_rfl) (by kernel_rfl) (fun _ _ _ h=>h) (Or.inl ⟨by rfl,?_⟩) (by assumption) ?_; rotate_left; (intro w hSw; (try dsimp only at hSw); go_simp); all_goals (try with_reducible rfl); try simp only [Act.put,zs0,zs1,zs2])
  (refine take_at (i:=18) (d:=some 110) (v:=?_) rfl rfl (by kernel_rfl) (by kernel_rfl) (by kernel_rfl) (fun _ _ _ h=>h) (Or.inl ⟨by rfl,?_⟩) (by assumption) ?_; rotate_left; (intro w hSw; (try dsimp only at hSw); go_simp); all_goals (try with_reducible rfl); try simp only [Act.put,zs0,zs1,zs2])
  (refine take_at (i:=19) (d:=some 111) (v:=?_) rfl rfl (by kernel_rfl) (by kernel_rfl) (by kernel_rfl) (fun _ _ _ h=>h) (Or.inl ⟨by rfl,?_⟩) (by assumption) ?_; rotate_left; (intro w hSw; (try dsimp only at hSw); go_simp); all_goals (try with_reducible rfl); try simp only [Act.put,zs0,zs1,zs2])
  (refine take_at (i:=20) (d:=some 112) (v:=Value.tuple #[]) rfl rfl (by kernel_rfl) (by kernel_rfl) (by kernel_rfl) (fun _ _ _ h=>h) (Or.inr ⟨by rfl,rfl⟩) (by assumption) ?_; try simp only [Act.put,zs0,zs1,zs2])
  (refine take_at (i:=21) (d:=some 113) (v:=Value.tuple #[]) rfl rfl (by kernel_rfl) (by kernel_rfl) (by kernel_rfl) (fun _ _ _ h=>h) (Or.inr ⟨by rfl,rfl⟩) (by assumption) ?_; try simp only [Act.put,zs0,zs1,zs2])
  (refine take_at (i:=22) (d:=some 114) (v:=Value.tuple #[]) rfl rfl (by kernel_rfl) (by kernel_rfl) (by kernel_rfl) (fun _ _ _ h=>h) (Or.inr ⟨by rfl,rfl⟩) (by assumption) ?_; try simp only [Act.put,zs0,zs1,zs2])
  (refine take_at (i:=23) (d:=some 115) (v:=Value.tuple #[]) rfl rfl (by kernel_rfl) (by kernel_rfl) (by kernel_rfl) (fun _ _ _ h=>h) (Or.inr ⟨by rfl,rfl⟩) (by assumption) ?_; try simp only [Act.put,zs0,zs1,zs2])
  (refine take_at (i:=24) (d:=some 116) (v:=Value.tuple #[]) rfl rfl (by kernel_rfl) (by kernel_rfl) (by kernel_rfl) (fun _ _ _ h=>h) (Or.inr ⟨by rfl,rfl⟩) (by assumption) ?_; try simp only [Act.put,zs0,zs1,zs2])
  (refine take_at (i:=25) (d:=some 117) (v:=Value.tuple #[]) rfl rfl (by kernel_rfl) (by kernel_rfl) (by kernel_rfl) (fun _ _ _ h=>h) (Or.inr ⟨by rfl,rfl⟩) (by assumption) ?_; try simp only [Act.put,zs0,zs1,zs2])
  (refine take_at (i:=26) (d:=some 118) (v:=?_) rfl rfl (by kernel_rfl) (by kernel_rfl) (by kernel_rfl) (fun _ _ _ h=>h) (Or.inl ⟨by rfl,?_⟩) (by assumption) ?_; rotate_left; (intro w hSw; (try dsimp only at hSw); go_simp); all_goals (try with_reducible rfl); try simp only [Act.put,zs0,zs1,zs2])
  (refine take_at (i:=27) (d:=some 119) (v:=?_) rfl rfl (by kernel_rfl) (by kernel_rfl) (by kernel_rfl) (fun _ _ _ h=>h) (Or.inl ⟨by rfl,?_⟩) (by assumption) ?_; rotate_left; (intro w hSw; (try dsimp only at hSw); go_simp); all_goals (try with_reducible rfl); try simp only [Act.put,zs0,zs1,zs2])
  refine wpAnyH_done (by kernel_rfl) ?_ _
  clear K3 hsq ks1 ks2
  obtain ⟨hp,hm,ht,ho,hc⟩:=HBad.out SA (by unfold spE2; rw [HS1.out]; exact if_neg hbe) hbe
  have HPl:=zc hp
  have HMi:=zc hm
  have HTi:=zc ht
  have HOv:=zc ho
  have HCo:=zc hc
  have ib:SpOk [] [] SA SA a1 a2:=zqy hbe
  have HIb:Hid (∀ w,Calls _ _ _ w _):=zc (fun w=>integer_bad (E:=SA) (z:=0) (w:=w) hbe)
  have HOO:Hid (or2 SA SB=SA):=zc (if_neg hbe)
  have kb1:(SA == 0)=false:=by simpa using hbe
  have kb2:(SA != 0)=true:=by simpa using hbe
  clear hp hm ht ho hc hbe HBad
  go_wp2_with fail
  refine zf (HPl.out _) ?_
  rintro e wD ⟨rfl,hxD⟩
  have hwD:Nxt w wD:=zaa
  have hgD:Glo wD:=Glo.nxt (a:=w)
  go_wp2_with fail
  refine zf (HMi.out _) ?_
  rintro e wE ⟨rfl,hxE⟩
  have hwE:Nxt w wE:=zaa
  have hgE:Glo wE:=Glo.nxt (a:=w)
  go_wp2_with fail
  refine zf (HTi.out _) ?_
  rintro e wF ⟨rfl,hxF⟩
  have hwF:Nxt w wF:=zaa
  have hgF:Glo wF:=Glo.nxt (a:=w)
  go_wp2_with fail
  refine zf (HOv.out _) ?_
  rintro e wG ⟨rfl,hxG⟩
  have hwG:Nxt w wG:=zaa
  have hgG:Glo wG:=Glo.nxt (a:=w)
  go_wp2_with fail
  refine zf (HCo.out _) ?_
  rintro e wH ⟨rfl,hxH⟩
  have hwH:Nxt w wH:=zaa
  go_wp2_with fail
  refine zf (HCb.out _) ?_
  rintro e wI ⟨rfl,hxI⟩
  have hwI:Nxt w wI:=zaa
  go_wp2_with fail
  refine zf (zgd) ?_
  rw [HOO.out]
  rintro e wJ ⟨rfl,hxJ⟩
  have J1:Blk wJ w.heap.size 24 #[str a1,str a2]:=za
  have J2:Blk wJ (w.heap.size+1) 24 #[str b1,str b2]:=za
  have J3:Blk wJ wD.heap.size 24 #[str [],str []]:=za
  have J4:Blk wJ wE.heap.size 24 #[str [],str []]:=za
  have J5:Blk wJ wF.heap.size 24 #[str [],str []]:=za
  have J6:Blk wJ wG.heap.size 24 #[str [],str []]:=za
  have hwJ:Nxt w wJ:=zaa
  clear K1 K2 hwC hgC hxD hxE hxF hxG hxH hxI hxJ hwD hwE hwF hwG hwH hwI hgD hgE hgF hgG
  generalize wD.heap.size=g3 at *
  generalize wE.heap.size=g4 at *
  generalize wF.heap.size=g5 at *
  generalize wG.heap.size=g6 at *
  go_wp2_with ((first | (go_at_call 16; refine zf (spc_o) ?_; rintro e v1 ⟨rfl,_⟩) | (go_at_call 27; refine zf (HIb.out _) ?_; rintro e v1 ⟨rfl,_⟩)))
  go_ret
  exact ⟨rfl,(zaa:Nxt w _).out⟩)
end
theorem numberSpans (HA:Hid zgf) (a1 a2 b1 b2:List UInt8) (k:Int) (w:World) [hg:Glo w]:
  Calls Tryz.prog 3 #[spv a1 a2,spv b1 b2,.int .i64 k] w (fun e w'=>e = .returned (.bool true)/\Below w.heap.size w w'):=by
 by_cases h:wide4 a1 a2 b1 b2=true
 ·exact zqw HA h
 ·have h : wide4 a1 a2 b1 b2 = false := by simpa using h
  exact zqz HA h
end
end Go.Proofs.YtombhkpniddceaaGreatDoor
