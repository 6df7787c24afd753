import Derived.Test.YtciabaaclnplnaaGreatDoorM47
import Derived.Test.YtciabaaclnplnaaGreatDoorCardBase
set_option maxHeartbeats 25600000
set_option maxRecDepth 100000
set_option synthInstance.maxSize 20000
set_option linter.all false
namespace Go.Proofs.YtciabaaclnplnaaGreatDoor
open Go.RowKit
section
open Go.Sort Go.Lib
theorem zoz:∀ (n:Nat),1 <= n -> (Lib.decDigits n)[0]? ≠ some 48:=by
 intro n
 induction n using Nat.strongRecOn with
 | _ n ih=>
  intro h1 hc
  by_cases h:n < 10
  ·rw [zbP h] at hc
   have h2:UInt8.ofNat (48+n)=48:=by simpa using hc
   have h3:=congrArg UInt8.toNat h2
   rw [UInt8.toNat_ofNat'] at h3
   have h4:(48:UInt8).toNat=48:=rfl
   omega
  ·rw [zdj (by omega)] at hc
   have hl:0 < (Lib.decDigits (n / 10)).length:=by rw [Lib.decDigits_length]; exact Lib.nDigits_pos _
   rw [List.getElem?_append_left hl] at hc
   exact ih (n / 10) (by omega) (by omega) hc
theorem zoq (n:Nat):decL (Lib.decDigits n)=true:=by
 rw [ziu (zn5 n) (fun h=>by
  rcases Nat.eq_zero_or_pos n with h0 | h0
  ·subst h0
   rw [zbP (by omega)] at h
   exact absurd h.2 (by simp)
  ·exact zoz n h0 h.1)]
 rw [zkd]
 intro i c hc
 exact zdi n c (List.mem_of_getElem? hc)
theorem zor {b t:Bool} {N D:List UInt8} (hN:Digs N) (hN0:N ≠ []):rNeg (fracL b N D t)=b/\rNum (fracL b N D t)=N/\rCut (fracL b N D t)=t/\(t=true -> rDen (fracL b N D t)=D):=by
 have h1:rNeg (fracL b N D t)=b:=by
  cases b
  ·cases N with
   | nil=>exact absurd rfl hN0
   | cons c l=>
    have hc:=(hN c (by simp)).1
    unfold rNeg Lib.hasPrefix fracL
    cases h:([45]:List UInt8).isPrefixOf ((if false=true then 45 :: c :: l else c :: l) ++ if t=true then 47 :: D else [])
    ·rfl
    ·exfalso
     simp at h
     rw [<- h] at hc
     exact absurd hc (by decide)
  ·unfold rNeg Lib.hasPrefix fracL
   simp
 have h2:Lib.trimPrefix (fracL b N D t) [45]=N ++ (if t then 47 :: D else []):=by
  unfold Lib.trimPrefix
  rw [show Lib.hasPrefix (fracL b N D t) [45]=b from h1]
  cases b
  ·rfl
  ·rfl
 have h3:zas (N ++ (if t then 47 :: D else []))=N.length:=by rw [zfg (zjj hN),zeu,Nat.add_zero]
 refine ⟨h1,?_,?_,?_⟩
 ·unfold rNum
  rw [h2,ziw,h3]
  split
  ·simp
  ·cases t
   ·simp
   ·rename_i h; simp at h
 ·unfold rCut
  rw [h2,ziw,h3]
  cases t
  ·simp
  ·simp
 ·intro ht
  subst ht
  unfold rDen
  rw [h2,ziw,h3]
  simp
theorem zoj {q:Rat} (hf:Fits q):readE (zad q)=0/\readQ (zad q)=q:=by
 obtain ⟨p1,p2,p3,p4⟩:=zor (b:=decide (q.num < 0)) (t:=decide (q.den ≠ 1)) (D:=Lib.decDigits q.den) (zdi q.num.natAbs) (zn5 q.num.natAbs)
 rw [<- zbk] at p1 p2 p3 p4
 have hD:decide (q.den ≠ 1)=true -> Lib.decDigits q.den ≠ [48]/\Lib.decDigits q.den ≠ [49]:=fun h=>by
  constructor
  ·exact fun e=>q.den_nz (zir.1 e)
  ·intro e
   have:=zcC q.den
   rw [e] at this
   have h1:q.den ≠ 1:=by simpa using h
   exact h1 (this.symm.trans (by decide +kernel))
 have hN:¬ (decide (q.num < 0)=true/\Lib.decDigits q.num.natAbs=[48]):=fun h=>by
  have h1:q.num < 0:=by simpa using h.1
  have:=zir.1 h.2
  omega
 have hE:rE (rNum (zad q)) (rDen (zad q)) (rCut (zad q)) (rNeg (zad q))=0:=by
  rw [p1,p2,p3]
  unfold rE
  rw [if_neg (fun h=>h.elim (fun h=>by rw [zoq] at h; cases h) hN)]
  cases ht:decide (q.den ≠ 1)
  ·rw [if_neg (fun h => by cases h.1)]
   have hd:rDen (zad q)=[]:=by
    have:=(znA (Lib.trimPrefix (zad q) [45]) 47).2.2 (by rw [ht] at p3; exact p3)
    exact this
   rw [hd,if_neg (by have:=hf.1; simp; omega),if_neg (fun h=>by cases h.1)]
  ·obtain ⟨d1, d2⟩ := hD ht
   rw [p4 ht,if_neg (fun h=>h.2.elim (fun h=>by rw [zoq] at h; cases h) (fun h=>h.elim d1 d2)),if_neg (by have:=hf.1; have:=hf.2; omega),if_neg (fun h=>by
    have:=h.2
    rw [zcC,zcC] at this
    have:=q.reduced
    unfold Nat.Coprime at this
    omega)]
 refine ⟨hE,?_⟩
 show rQ (rNum (zad q)) (rDen (zad q)) (rCut (zad q)) (rNeg (zad q))=q
 unfold rQ
 rw [if_pos hE,p1,p2,p3,zcC]
 have hs:sgn (decide (q.num < 0)) q.num.natAbs=q.num:=zcj _
 rw [hs]
 cases ht:decide (q.den ≠ 1)
 ·have h1 : q.den = 1 := by simpa using ht
  rw [if_neg (by decide)]
  exact (zdM h1).symm
 ·rw [if_pos rfl, p4 ht, zcC]
  exact Rat.num_divInt_den q
end
theorem zoB {l:List UInt8} {d:Nat} {w:World} (hd:d <= 1000):Calls Tryz.prog 55 #[str l,.int .i64 (d:Int)] w (PRet w (.bool (decide (fewP l d)))):=by
 have m1:IntKind.i64.wrap (2 * (d:Int))=2 * (d:Int):=by rw [IntKind.wrap_i64]; omega
 have m2:IntKind.i64.wrap (2 * (d:Int)+2)=2 * (d:Int)+2:=by rw [IntKind.wrap_i64]; omega
 by_cases h1:l.length <= 2 * d+2
 ·have i1 : decide ((l.length : Int) <= 2 * (d : Int) + 2) = true := by simp; omega
  have i2:(l.length:Int) <= 2 * (d:Int)+2:=by omega
  have HCK:Hid (∀ w,Calls _ _ _ w _):=Hid.mk (fun w=>zkL (l:=l) (w:=w) (by omega))
  by_cases hE:readE l=0
  ·have hc := zf8 hE
   obtain ⟨q,hq⟩:∃ q,readQ l=q:=⟨_,rfl⟩
   have dq:Sz q 600:=by rw [<- hq]; infer_instance
   have HN:Hid (∀ w,Calls _ _ _ w _):=Hid.mk (fun w=>zlv (q:=q) (a:=600) (w:=w) (by decide))
   have HA:Hid (∀ w,Calls _ _ _ w _):=Hid.mk (fun w=>zmA (q:=(q.num:Rat)) (w:=w))
   have HD:Hid (∀ w,Calls _ _ _ w _):=Hid.mk (fun w=>zn4 (q:=q) (a:=600) (w:=w) (by decide))
   rw [znL] at HA
   rw [zfp] at HD
   rw [hE] at HCK
   rw [hq] at hc
   rw [hc] at HN HD
   obtain ⟨A,hA⟩:∃ A,Lib.decDigits q.num.natAbs=A:=⟨_,rfl⟩
   obtain ⟨D,hD⟩:∃ D,Lib.decDigits q.den=D:=⟨_,rfl⟩
   obtain ⟨M,hM⟩:∃ M,zad (q.num:Rat)=M:=⟨_,rfl⟩
   rw [hA] at HA
   rw [hD] at HD
   rw [hM] at HN HA
   have hiff:fewP l d ↔ (A.length <= d/\D.length <= d):=by
    unfold fewP
    rw [hq,hA,hD]
    exact ⟨fun h=>h.2.2,fun h=>⟨h1,hE,h⟩⟩
   have HV:Hid (decide (fewP l d)=(decide (A.length <= d) && decide (D.length <= d))):=Hid.mk (by
    rw [<- Bool.decide_and]
    exact decide_eq_decide.2 hiff)
   have j1:decide ((A.length:Int) <= (d:Int))=decide (A.length <= d):=decide_eq_decide.2 (by omega)
   have j2:decide ((D.length:Int) <= (d:Int))=decide (D.length <= d):=decide_eq_decide.2 (by omega)
   have HJ:=Hid.mk (show _/\_ from ⟨j1,j2⟩)
   clear h1 hE hc hq hA hD hM dq j1 j2 hiff
   by_cases z1:A.length <= d
   ·have e1 : decide ((A.length : Int) <= (d : Int)) = true := by simp; omega
    have e1':decide (A.length <= d)=true:=by simpa using z1
    have HZ:=Hid.mk e1'
    clear z1
    go_enter Tryz.func55,Tryz.ntmps55
    go_wp2_with fail
    refine Calls.mono (HCK.out _) ?_
    rintro e w1 ⟨rfl,hx1⟩
    go_wp2_with fail
    refine Calls.mono (HN.out _) ?_
    rintro e w2 ⟨rfl,hx2⟩
    go_wp2_with fail
    refine Calls.mono (HA.out _) ?_
    rintro e w3 ⟨rfl,hx3⟩
    go_wp2_with fail
    refine Calls.mono (HD.out _) ?_
    rintro e w4 ⟨rfl,hx4⟩
    go_wp2_with fail
    go_ret
    exact ⟨by rw [HV.out,HZ.out,<- HJ.out.2] <;> simp,zaa⟩
   ·have e1 : decide ((A.length : Int) <= (d : Int)) = false := by simp; omega
    have e1':decide (A.length <= d)=false:=by simpa using z1
    have HZ:=Hid.mk e1'
    clear z1
    go_enter Tryz.func55,Tryz.ntmps55
    go_wp2_with fail
    refine Calls.mono (HCK.out _) ?_
    rintro e w1 ⟨rfl,hx1⟩
    go_wp2_with fail
    refine Calls.mono (HN.out _) ?_
    rintro e w2 ⟨rfl,hx2⟩
    go_wp2_with fail
    refine Calls.mono (HA.out _) ?_
    rintro e w3 ⟨rfl,hx3⟩
    go_wp2_with fail
    go_ret
    exact ⟨by rw [HV.out,HZ.out]; rfl,zaa⟩
  ·obtain ⟨E, hEE⟩ : ∃ E, readE l = E := ⟨_, rfl⟩
   have HV:Hid (decide (fewP l d)=false):=Hid.mk (decide_eq_false (fun h=>hE h.2.1))
   rw [hEE] at HCK hE
   have k1:(E == 0)=false:=by simpa using hE
   clear h1 hE hEE
   go_enter Tryz.func55,Tryz.ntmps55
   go_wp2_with fail
   refine Calls.mono (HCK.out _) ?_
   rintro e w1 ⟨rfl,hx1⟩
   go_wp2_with fail
   go_ret
   exact ⟨by rw [HV.out]; rfl,zaa⟩
 ·have i1 : decide ((l.length : Int) <= 2 * (d : Int) + 2) = false := by simp; omega
  have HV:Hid (decide (fewP l d)=false):=Hid.mk (decide_eq_false (fun h=>h1 h.1))
  clear h1
  go_enter Tryz.func55,Tryz.ntmps55
  go_wp2_with fail
  go_ret
  exact ⟨by rw [HV.out]; rfl,zaa⟩
section
open Go.Sort Go.Lib
theorem zoc {q:Rat} {k:Nat} (h:Sz q k) (h1:1 <= k) (h2:k <= 30):Fits q:=⟨Nat.le_trans (zis h.num h1) (by omega),Nat.le_trans (zis h.den h1) (by omega)⟩
theorem zos {q:Rat} (h:Fits q):wE q=0:=if_pos h
theorem zoi {q:Rat} (h:Fits q):wTxt q=zad q:=if_pos h
theorem zon {Z:Rat × Rat} (h1:Fits Z.1) (h2:Fits Z.2):zbw Z = .tuple #[spv (zad Z.1) (zad Z.2),.int .i64 0]:=by
 have e:wE2 Z=0:=by unfold wE2; rw [zos h1,zos h2]; rfl
 unfold zbw
 rw [if_pos e,if_pos e,e,zoi h1,zoi h2]
theorem zox {Z:Rat × Rat} (o:Ord2 Z) (h1:Fits Z.1) (h2:Fits Z.2):spE (zad Z.1) (zad Z.2)=0:=by
 obtain ⟨e1,r1⟩:=zoj h1
 obtain ⟨e2,r2⟩:=zoj h2
 have e:zbx (zad Z.1) (zad Z.2)=0:=by unfold zbx; rw [e1,e2]; rfl
 unfold spE
 rw [if_pos e,r1,r2,if_neg (by have:=zga.2 o.out; omega)]
theorem zol {q:Rat} (h:Fits q):(zad q).length <= 2 ^ 19:=by
 unfold zad itoaZ
 have h1:=h.1
 have h2:=h.2
 split
 ·split <;> simp <;> omega
 ·split <;> simp <;> omega
theorem chk_o {a b:List UInt8} {w:World} [h:ChkOk a b]:Calls Tryz.prog 19 #[spv a b] w (PRet w (.int .i64 0)):=h.out w
theorem zpn {Z:Rat × Rat} (o:Ord2 Z) (h1:Fits Z.1) (h2:Fits Z.2):ChkOk (zad Z.1) (zad Z.2):=⟨fun w=>by
 have h:=zgg (a:=zad Z.1) (b:=zad Z.2) (w:=w) (zol h1) (zol h2)
 rw [zox o h1 h2] at h
 exact h⟩
end
section
open Go.Sort Go.Lib
section
variable {al ah bl bh:List UInt8}
theorem Sz.up {q:Rat} {a b:Nat} (h:Sz q a) (hab:a <= b):Sz q b:=⟨Nat.le_trans h.num hab,Nat.le_trans h.den hab⟩
end
end
theorem zoI {a b:Int} (hb:0 < b):(Rat.divInt a b).num * b=a * ((Rat.divInt a b).den:Int):=by
 have h0:(Rat.divInt a b).den ≠ 0:=(Rat.divInt a b).den_nz
 have h:=Rat.num_divInt_den (Rat.divInt a b)
 exact (Rat.divInt_eq_divInt_iff (by omega) (by omega)).1 h
theorem zoM {a b:Int} (hb:0 < b):(Rat.divInt a b).num / ((Rat.divInt a b).den:Int)=a / b:=by
 have h:=zoI (a:=a) hb
 have hd:(0:Int) < ((Rat.divInt a b).den:Int):=by have:=(Rat.divInt a b).den_nz; omega
 generalize (Rat.divInt a b).num=n at *
 generalize ((Rat.divInt a b).den:Int)=d at *
 have key:∀ m:Int,m <= n / d ↔ m <= a / b:=fun m=>by
  rw [Int.le_ediv_iff_mul_le hd,Int.le_ediv_iff_mul_le hb]
  constructor
  ·intro h1
   have h2:=Int.mul_le_mul_of_nonneg_right h1 (Int.le_of_lt hb)
   rw [h,show m * d * b=m * b * d by grind] at h2
   exact Int.le_of_mul_le_mul_right h2 hd
  ·intro h1
   have h2:=Int.mul_le_mul_of_nonneg_right h1 (Int.le_of_lt hd)
   rw [<- h,show m * b * d=m * d * b by grind] at h2
   exact Int.le_of_mul_le_mul_right h2 hb
 exact Int.le_antisymm ((key _).1 (Int.le_refl _)) ((key _).2 (Int.le_refl _))
theorem zoD {a b c d:Int} (hb:0 < b) (hd:0 < d):Rat.divInt a b <= Rat.divInt c d ↔ a * d <= c * b:=by
 have h1:=zoI (a:=a) hb
 have h2:=zoI (a:=c) hd
 have p1:(0:Int) < ((Rat.divInt a b).den:Int):=by have:=(Rat.divInt a b).den_nz; omega
 have p2:(0:Int) < ((Rat.divInt c d).den:Int):=by have:=(Rat.divInt c d).den_nz; omega
 rw [Rat.le_iff]
 generalize (Rat.divInt a b).num=n1 at *
 generalize (Rat.divInt c d).num=n2 at *
 generalize ((Rat.divInt a b).den:Int)=d1 at *
 generalize ((Rat.divInt c d).den:Int)=d2 at *
 have hp:=Int.mul_pos hb hd
 have hq:=Int.mul_pos p1 p2
 have e1:n1 * d2 * (b * d)=a * d * (d1 * d2):=by
  rw [show n1 * d2 * (b * d)=n1 * b * (d2 * d) by grind,h1]; grind
 have e2:n2 * d1 * (b * d)=c * b * (d1 * d2):=by
  rw [show n2 * d1 * (b * d)=n2 * d * (d1 * b) by grind,h2]; grind
 constructor
 ·intro h
  have:=Int.mul_le_mul_of_nonneg_right h (Int.le_of_lt hp)
  rw [e1,e2] at this
  exact Int.le_of_mul_le_mul_right this hq
 ·intro h
  have:=Int.mul_le_mul_of_nonneg_right h (Int.le_of_lt hq)
  rw [<- e1,<- e2] at this
  exact Int.le_of_mul_le_mul_right this hp
theorem zod (x:Rat):Rat.divInt x.num (x.den:Int)=x:=Rat.num_divInt_den x
theorem zoN {n d rn rd:Nat} (hc:Nat.Coprime n d) (hd0:0 < d) (hn:zb5 n rn) (hd:zb5 d rd) (h:rn * rn * d=n * (rd * rd)):rn * rn=n/\rd * rd=d:=by
 have h1:rn * rn * d <= n * d:=Nat.mul_le_mul_right _ hn.1
 have h2:n * (rd * rd) <= n * d:=Nat.mul_le_mul_left _ hd.1
 have d1:d ∣ rd * rd:=hc.symm.dvd_of_dvd_mul_left ⟨rn * rn,by rw [<- h]; exact Nat.mul_comm _ _⟩
 have p1:0 < rd * rd:=by
  rcases Nat.eq_zero_or_pos rd with h0 | h0
  ·subst h0; have:=hd.2; omega
  ·exact Nat.mul_pos h0 h0
 have e2:rd * rd=d:=Nat.le_antisymm hd.1 (Nat.le_of_dvd p1 d1)
 rw [e2] at h
 exact ⟨Nat.eq_of_mul_eq_mul_right hd0 h,e2⟩
theorem zow {x:Rat} {rn rd:Nat} (h0:0 <= x.num) (hn:zb5 x.num.natAbs rn) (hd:zb5 x.den rd):Rat.divInt rn rd * Rat.divInt rn rd=x ↔ ((rn:Int) * rn=x.num/\(rd:Int) * rd=x.den):=by
 have p0:0 < rd:=by
  rcases Nat.eq_zero_or_pos rd with h | h
  ·subst h; have:=hd.2; have:=x.den_pos; omega
  ·exact h
 have p1:(0:Int) < (rd:Int) * rd:=Int.mul_pos (by omega) (by omega)
 have p2:(0:Int) < (x.den:Int):=by have:=x.den_pos; omega
 have e:Rat.divInt rn rd * Rat.divInt rn rd=Rat.divInt ((rn:Int) * rn) ((rd:Int) * rd):=Rat.divInt_mul_divInt _ _
 rw [e]
 constructor
 ·intro h
  rw [<- zod x] at h
  have h1:=(Rat.divInt_eq_divInt_iff (by omega) (by omega)).1 h
  have h2:rn * rn * x.den=x.num.natAbs * (rd * rd):=by
   apply Int.ofNat.inj
   show (((rn * rn * x.den:Nat)):Int)=((x.num.natAbs * (rd * rd):Nat):Int)
   rw [Int.natCast_mul,Int.natCast_mul,Int.natCast_mul,Int.natCast_mul,h1,Int.natAbs_of_nonneg h0]
  obtain ⟨a,b⟩:=zoN x.reduced x.den_pos hn hd h2
  constructor
  ·have := congrArg (Nat.cast (R := Int)) a
   rw [Int.natCast_mul,Int.natAbs_of_nonneg h0] at this
   exact this
  ·have := congrArg (Nat.cast (R := Int)) b
   rw [Int.natCast_mul] at this
   exact this
 ·rintro ⟨a, b⟩
  rw [a,b]
  exact zod x
theorem zog (k:Nat):(0:Int) < 10 ^ k:=Int.pow_pos (by decide)
theorem zom {x:Rat} {r k:Nat} (h0:0 <= x.num) (hr:zb5 (x.num.natAbs * 100 ^ k / x.den) r):
  (r:Int) * r * x.den <= x.num * (10 ^ k * 10 ^ k)/\x.num * (10 ^ k * 10 ^ k) < ((r:Int)+1) * (r+1) * x.den:=by
 have e:(100:Nat) ^ k=10 ^ k * 10 ^ k:=by rw [<- Nat.mul_pow]
 have h1:=(Nat.le_div_iff_mul_le x.den_pos).1 hr.1
 have h2:=(Nat.div_lt_iff_lt_mul x.den_pos).1 hr.2
 rw [e] at h1 h2
 have c1:((x.num.natAbs:Nat):Int)=x.num:=Int.natAbs_of_nonneg h0
 have a:=Int.ofNat_le.2 h1
 have b:=Int.ofNat_lt.2 h2
 simp only [Int.natCast_mul,Int.natCast_add,Int.natCast_pow,c1] at a b
 exact ⟨a,b⟩
theorem zp0 {x:Rat} {rn rd r k:Nat}   : 0 <= (rootI x rn rd r k).1:=by
 unfold rootI stepI
 split
 ·exact Rat.divInt_nonneg (by omega) (by omega)
 ·exact Rat.divInt_nonneg (by omega) (Int.le_of_lt (zog k))
theorem zoR {a b:Int} (hb:0 < b):Rat.divInt a b <= Rat.divInt (a+1) b:=by
 rw [zoD hb hb,Int.add_mul]; omega
theorem zpr {x:Rat} {rn rd r k:Nat}:(rootI x rn rd r k).1 <= (rootI x rn rd r k).2:=by
 unfold rootI stepI
 split
 ·exact Rat.le_refl
 ·exact zoR (zog k)
theorem zp1 {x:Rat} {rn rd r k:Nat} (h0:0 <= x.num) (hn:zb5 x.num.natAbs rn) (hd:zb5 x.den rd) (hr:zb5 (x.num.natAbs * 100 ^ k / x.den) r):(rootI x rn rd r k).1 * (rootI x rn rd r k).1 <= x:=by
 have p2:(0:Int) < (x.den:Int):=by have:=x.den_pos; omega
 unfold rootI stepI
 split
 ·rename_i h
  rw [(zow h0 hn hd).2 h]; exact Rat.le_refl
 ·show Rat.divInt r (10 ^ k) * Rat.divInt r (10 ^ k) <= x
  have hp:=Int.mul_pos (zog k) (zog k)
  rw [Rat.divInt_mul_divInt]
  have h:=(zom h0 hr).1
  have:=(zoD (a:=(r:Int) * r) (c:=x.num) hp p2).2 h
  rwa [zod] at this
theorem zpF {x:Rat} {rn rd r k:Nat} (h0:0 <= x.num) (hn:zb5 x.num.natAbs rn) (hd:zb5 x.den rd) (hr:zb5 (x.num.natAbs * 100 ^ k / x.den) r):x <= (rootI x rn rd r k).2 * (rootI x rn rd r k).2:=by
 have p2:(0:Int) < (x.den:Int):=by have:=x.den_pos; omega
 unfold rootI stepI
 split
 ·rename_i h
  rw [(zow h0 hn hd).2 h]; exact Rat.le_refl
 ·show x <= Rat.divInt (r + 1) (10 ^ k) * Rat.divInt (r + 1) (10 ^ k)
  have hp:=Int.mul_pos (zog k) (zog k)
  rw [Rat.divInt_mul_divInt]
  have h:=(zom h0 hr).2
  have:=(zoD (a:=x.num) (c:=((r:Int)+1) * (r+1)) p2 hp).2 (Int.le_of_lt h)
  rwa [zod] at this
theorem zpD {x:Rat} {rn rd r k:Nat}:(rootI x rn rd r k).2 - (rootI x rn rd r k).1 <= Rat.divInt 1 (10 ^ k):=by
 unfold rootI stepI
 split
 ·rw [Rat.sub_self]; exact Rat.divInt_nonneg (by omega) (Int.le_of_lt (zog k))
 ·show Rat.divInt (r + 1) (10 ^ k) - Rat.divInt r (10 ^ k) <= _
  have hne:((10:Int) ^ k) ≠ 0:=by have:=zog k; omega
  have e:Rat.divInt ((r:Int)+1) (10 ^ k)=Rat.divInt (r:Int) (10 ^ k)+Rat.divInt 1 (10 ^ k):=by
   rw [Rat.divInt_add_divInt _ _ hne hne,<- Int.add_mul,Rat.divInt_mul_right hne]
  rw [e,Rat.add_comm,Rat.sub_eq_add_neg,Rat.add_assoc,<- Rat.sub_eq_add_neg,Rat.sub_self,Rat.add_zero]
  exact Rat.le_refl
theorem zpE {x:Rat} {rn rd r s k:Nat} (h0:0 <= x.num) (hr:zb5 (x.num.natAbs * 100 ^ k / x.den) r) (hs:zb5 (x.num.natAbs * 100 ^ (k+2) / x.den) s):
  (rootI x rn rd r k).1 <= (rootI x rn rd s (k+2)).1/\(rootI x rn rd s (k+2)).2 <= (rootI x rn rd r k).2:=by
 unfold rootI
 split
 ·exact ⟨Rat.le_refl,Rat.le_refl⟩
 ·obtain ⟨a1, a2⟩ := zom h0 hr
  obtain ⟨b1,b2⟩:=zom h0 hs
  have p2:(0:Int) < (x.den:Int):=by have:=x.den_pos; omega
  have e:(10:Int) ^ (k+2)=10 ^ k * 100:=by rw [Int.pow_add]; rfl
  have hp:=zog k
  have hp2:=zog (k+2)
  rw [e] at b1 b2
  generalize hu:(10:Int) ^ k=u at *
  generalize (x.den:Int)=d at *
  have k1:(100 * (r:Int)) * (100 * r) * d <= x.num * (u * 100 * (u * 100)):=by
   have:=Int.mul_le_mul_of_nonneg_left a1 (show (0:Int) <= 10000 by decide)
   have e1:(10000:Int) * (r * r * d)=100 * r * (100 * r) * d:=by grind
   have e2:(10000:Int) * (x.num * (u * u))=x.num * (u * 100 * (u * 100)):=by grind
   rwa [e1,e2] at this
  have k2:x.num * (u * 100 * (u * 100)) < (100 * ((r:Int)+1)) * (100 * (r+1)) * d:=by
   have:=Int.mul_lt_mul_of_pos_left a2 (show (0:Int) < 10000 by decide)
   have e1:(10000:Int) * ((r+1) * (r+1) * d)=100 * (r+1) * (100 * (r+1)) * d:=by grind
   have e2:(10000:Int) * (x.num * (u * u))=x.num * (u * 100 * (u * 100)):=by grind
   rwa [e1,e2] at this
  have m1:100 * r <= s:=by
   rcases Nat.lt_or_ge s (100 * r) with h | h
   ·exfalso
    have h1:((s:Int)+1) * (s+1) <= 100 * r * (100 * r):=Int.mul_le_mul (by omega) (by omega) (by omega) (by omega)
    have h2:=Int.mul_le_mul_of_nonneg_right h1 (Int.le_of_lt p2)
    omega
   ·exact h
  have m2:s+1 <= 100 * (r+1):=by
   rcases Nat.lt_or_ge s (100 * (r+1)) with h | h
   ·exact h
   ·exfalso
    have h1:(100 * ((r:Int)+1)) * (100 * (r+1)) <= s * s:=Int.mul_le_mul (by omega) (by omega) (by omega) (by omega)
    have h2:=Int.mul_le_mul_of_nonneg_right h1 (Int.le_of_lt p2)
    omega
  rw [e] at hp2
  unfold stepI
  rw [e,hu]
  constructor
  ·show Rat.divInt r u <= Rat.divInt s (u * 100)
   rw [zoD hp hp2]
   have:=Int.mul_le_mul_of_nonneg_right (show (100 * r:Int) <= s by omega) (Int.le_of_lt hp)
   grind
  ·show Rat.divInt (s + 1) (u * 100) <= Rat.divInt (r + 1) u
   rw [zoD hp2 hp]
   have:=Int.mul_le_mul_of_nonneg_right (show ((s:Int)+1) <= 100 * (r+1) by omega) (Int.le_of_lt hp)
   grind
theorem zo1 (p:Rat):(p * p).num=p.num * p.num/\(p * p).den=p.den * p.den:=by
 have hc:Nat.gcd (p.num * p.num).natAbs (p.den * p.den)=1:=by
  rw [Int.natAbs_mul]
  exact (p.reduced.mul_left p.reduced).mul_right (p.reduced.mul_left p.reduced)
 refine zjP (Nat.mul_ne_zero p.den_nz p.den_nz) ?_ hc
 rw [Int.natCast_mul]
 exact (zdd p p).symm
theorem zpe (n:Nat):zb5 (n * n) n:=⟨Nat.le_refl _,Nat.mul_lt_mul_of_lt_of_le (Nat.lt_succ_self n) (Nat.le_succ n) (Nat.succ_pos n)⟩
theorem zo7 {p:Rat} {r k:Nat}:rootI (p * p) p.num.natAbs p.den r k=(abQ p,abQ p):=by
 obtain ⟨e1,e2⟩:=zo1 p
 have h:((p.num.natAbs:Nat):Int) * (p.num.natAbs:Nat)=(p * p).num/\((p.den:Nat):Int) * (p.den:Nat)=((p * p).den:Int):=by
  rw [e1,e2]
  exact ⟨Int.natAbs_mul_self' _ , by rw [Int.natCast_mul]⟩
 unfold rootI
 rw [if_pos h]
 have e:Rat.divInt ((p.num.natAbs:Nat):Int) ((p.den:Nat):Int)=abQ p:=by
  unfold abQ
  split
  ·rename_i hn
   rw [show ((p.num.natAbs:Nat):Int) = -p.num by omega,<- Rat.neg_divInt,zod]
  ·rw [show ((p.num.natAbs:Nat):Int)=p.num by omega,zod]
 rw [e]
theorem zou {q:Rat} {a:Nat} {w:World} [d:Sz q a] (ha:a <= 2 ^ 30):Calls Tryz.prog 174 #[str (zad q)] w (PRet w (.bool (decide (q.den=1)))):=by
 have hl:=zdu d
 obtain ⟨h1,h2⟩:=zfY q
 obtain ⟨L,hL⟩:∃ L,zad q=L:=⟨_,rfl⟩
 rw [hL] at hl h1 h2 ⊢
 have HSC:Hid (∀ w,Calls _ _ _ w _):=Hid.mk (fun w=>zff (s:=⟨L.toArray⟩) (w:=w) (by show L.toArray.size < _; simp; omega))
 rw [h1] at HSC
 obtain ⟨k,hk⟩:∃ k,(itoaZ q.num).length=k:=⟨_,rfl⟩
 rw [hk] at HSC h2
 have HB:Hid ((k == L.length)=decide (q.den=1)):=Hid.mk (by
  by_cases h:q.den=1
  ·rw [if_pos h] at h2; rw [decide_eq_true h,h2]; simp
  ·rw [if_neg h] at h2; rw [decide_eq_false h,beq_eq_false_iff_ne]; omega)
 have HB2:Hid (((k:Int) == (L.length:Int))=decide (q.den=1)):=Hid.mk (by
  rw [<- HB.out]
  by_cases h:k=L.length
  ·rw [h]; simp
  ·rw [show (k == L.length)=false from beq_eq_false_iff_ne.2 h,beq_eq_false_iff_ne]; omega)
 clear hl h1 h2 hL hk
 go_enter Tryz.func174,Tryz.ntmps174
 go_wp2_with fail
 refine Calls.mono (HSC.out _) ?_
 rintro e w1 ⟨rfl,hd1⟩
 go_wp2_with fail
 go_ret
 exact ⟨by first | (rw [<- HB2.out]; rfl) | (rw [<- HB.out]; rfl),⟨hd1.below _⟩⟩
theorem zo3 {q:Rat} {a:Nat} {w:World} [d1:Sz q a] (ha:a <= 2 ^ 15):Calls Tryz.prog 90 #[str (zad q)] w (PRet w (str (zad ((q.num / (q.den:Int):Int):Rat)))):=by
 have HA:=Hid.mk ha
 have HL1:Hid (dl q.num.natAbs <= 2 ^ 24):=Hid.mk (Nat.le_trans (dl_wl d1.num) (by omega))
 have HP:Hid ((0:Int) < (q.den:Int)):=Hid.mk (by have:=q.den_nz; omega)
 by_cases h1:q.den=1
 ·have hd : decide (q.den = 1) = true := decide_eq_true h1
  have HV:Hid (zad q=zad ((q.num / (q.den:Int):Int):Rat)):=Hid.mk (by
   rw [zcG,h1,show q.num / ((1:Nat):Int)=q.num from Int.ediv_one _]
   unfold zad
   rw [if_pos h1,List.append_nil])
  clear ha h1
  go_enter Tryz.func90,Tryz.ntmps90
  go_wp2_with fail
  refine Calls.mono (zou (q:=q) (a:=a) (by have:=HA.out; omega)) ?_
  rw [hd]
  rintro e w1 ⟨rfl,hx1⟩
  go_wp2_with fail
  go_ret
  exact ⟨by rw [<- HV.out]; rfl,zaa⟩
 ·have hd : decide (q.den = 1) = false := decide_eq_false h1
  clear ha h1
  go_enter Tryz.func90,Tryz.ntmps90
  go_wp2_with fail
  refine Calls.mono (zou (q:=q) (a:=a) (by have:=HA.out; omega)) ?_
  rw [hd]
  rintro e w1 ⟨rfl,hx1⟩
  go_wp2_with fail
  refine Calls.mono (zbW (q:=q) HA.out) ?_
  rintro e w3 ⟨⟨bn,⟨An,kn,cn⟩⟩,⟨bd,⟨Ad,kd,cd⟩⟩,rfl,zn,zd,hx3⟩
  go_wp2_with fail
  refine Calls.mono (zpg (x:=q.num) (y:=(q.den:Int)) HL1.out HP.out) ?_
  rintro e w4 ⟨⟨b4,⟨A4,k4,c4⟩⟩,rfl,z4,hx4⟩
  go_wp2_with fail
  refine Calls.mono (zd9 (z:=q.num / (q.den:Int)) ?_) ?_
  ·have h1:(q.num / (q.den:Int)).natAbs <= q.num.natAbs+1:=by
    have hp:=HP.out
    by_cases h:q.num < 0
    ·have h2 := Int.ediv_neg_of_neg_of_pos h hp
     have h3:q.num <= q.num / (q.den:Int):=by
      rw [Int.le_ediv_iff_mul_le hp]
      have:=Int.mul_le_mul_of_nonpos_left (show q.num <= 0 by omega) (show (1:Int) <= (q.den:Int) by omega)
      simpa using this
     omega
    ·have h2 := Int.ediv_nonneg (show (0 : Int) <= q.num by omega) (show (0 : Int) <= (q.den : Int) by omega)
     have h3:=Int.ediv_le_self (q.den:Int) (show (0:Int) <= q.num by omega)
     omega
   have h2:=zar h1
   have h3:wl (q.num.natAbs+1) <= a+1:=by
    refine zaf ?_
    have h4:=Nat.lt_of_lt_of_le (zaz q.num.natAbs) (Nat.pow_le_pow_right (by unfold B64; omega) d1.num)
    have h5:B64 ^ a < B64 ^ (a+1):=Nat.pow_lt_pow_right (by unfold B64; omega) (by omega)
    omega
   exact Nat.le_trans (dl_wl (Nat.le_trans h2 h3)) (by have:=HA.out; omega)
  rintro e w5 ⟨rfl,hx5⟩
  go_wp2_with fail
  go_ret
  exact ⟨by rw [zcG]; rfl,zaa⟩
section
open Go.Sort Go.Lib
theorem sq_pow (a:Rat):∀ m:Nat,(a * a) ^ m=a ^ (2 * m)
 | 0=>by rw [Nat.mul_zero,Rat.pow_zero,Rat.pow_zero]
 | m+1=>by rw [Rat.pow_succ,sq_pow a m,show 2 * (m+1)=2 * m+1+1 by omega,Rat.pow_succ,Rat.pow_succ,Rat.mul_assoc]
theorem zps {A O Q:Rat} {k:Nat} (h:O * A ^ k=Q):(if k % 2=1 then O * A else O) * (A * A) ^ (k / 2)=Q:=by
 rw [sq_pow,<- h]
 split
 ·rename_i h1
  rw [Rat.mul_assoc,Rat.mul_comm A,<- Rat.pow_succ,show 2 * (k / 2)+1=k by omega]
 ·rename_i h1
  rw [show 2 * (k / 2)=k by omega]
theorem zoE:zad 1=[49]:=by decide +kernel
class Mu9 (a b:List UInt8) (c:outParam (List UInt8)):Prop where
 out:∀ w:World,Calls Tryz.prog 49 #[str a,str b] w (PRet w (str c))
theorem mu9_o {a b c:List UInt8} {w:World} [h:Mu9 a b c]:Calls Tryz.prog 49 #[str a,str b] w (PRet w (str c)):=h.out w
class Dv9 (a b:List UInt8) (c:outParam (List UInt8)):Prop where
 out:∀ w:World,Calls Tryz.prog 51 #[str a,str b] w (PRet w (str c))
theorem dv9_o {a b c:List UInt8} {w:World} [h:Dv9 a b c]:Calls Tryz.prog 51 #[str a,str b] w (PRet w (str c)):=h.out w
class Cm9 (a b:List UInt8) (c:outParam Int):Prop where
 out:∀ w:World,Calls Tryz.prog 50 #[str a,str b] w (PRet w (.int .i64 c))
theorem cm9_o {a b:List UInt8} {c:Int} {w:World} [h:Cm9 a b c]:Calls Tryz.prog 50 #[str a,str b] w (PRet w (.int .i64 c)):=h.out w
def zt (n:Nat):List UInt8:=zad ((n:Int):Rat)
theorem zt0:zt 0=[48]:=by decide +kernel
theorem zt1:zt 1=[49]:=by decide +kernel
theorem zt2:zt 2=[50]:=by decide +kernel
theorem zpf:zad (Rat.divInt 1 2)=[49,47,50]:=by decide +kernel
theorem zsz {n m:Nat} (h:wl n <= m):Sz ((n:Int):Rat) (m+1):=by
 have:Wd (n:Int) m:=⟨by rw [Int.natAbs_natCast]; exact h⟩
 exact ⟨by rw [Rat.num_intCast]; exact Nat.le_succ_of_le this.out,by rw [Rat.den_intCast,za1]; omega⟩
section
variable {w:World} {a b m:Nat}
theorem zp3 (ha:wl a <= m) (hb:wl b <= m) (hm:m <= 2 ^ 14):Calls Tryz.prog 49 #[str (zt a),str (zt b)] w (PRet w (str (zt (a * b)))):=by
 have d1:=zsz ha
 have d2:=zsz hb
 have h:=zoh (p:=((a:Int):Rat)) (q:=((b:Int):Rat)) (a:=m+1) (b:=m+1) (w:=w) (by omega) (by omega)
 rw [<- Rat.intCast_mul,<- Int.natCast_mul] at h
 exact h
theorem zqk (ha:wl a <= m) (hb:wl b <= m) (hm:m <= 2 ^ 14):Calls Tryz.prog 47 #[str (zt a),str (zt b)] w (PRet w (str (zt (a+b)))):=by
 have d1:=zsz ha
 have d2:=zsz hb
 have h:=zn9 (p:=((a:Int):Rat)) (q:=((b:Int):Rat)) (a:=m+1) (b:=m+1) (w:=w) (by omega) (by omega)
 rw [<- Rat.intCast_add,<- Int.natCast_add] at h
 exact h
theorem zqq (hab:b <= a) (ha:wl a <= m) (hb:wl b <= m) (hm:m <= 2 ^ 14):Calls Tryz.prog 48 #[str (zt a),str (zt b)] w (PRet w (str (zt (a - b)))):=by
 have d1:=zsz ha
 have d2:=zsz hb
 have h:=znS (p:=((a:Int):Rat)) (q:=((b:Int):Rat)) (a:=m+1) (b:=m+1) (w:=w) (by omega) (by omega)
 rw [<- Rat.intCast_sub,<- Int.ofNat_sub hab] at h
 exact h
theorem cmpz (a b:Nat):cmpQ ((a:Int):Rat) ((b:Int):Rat)=cmpI (a:Int) (b:Int):=by
 unfold cmpQ
 rw [Rat.num_intCast,Rat.num_intCast,Rat.den_intCast,Rat.den_intCast]
 simp
theorem zqj (ha:wl a <= m) (hb:wl b <= m) (hm:m <= 2 ^ 14):Calls Tryz.prog 50 #[str (zt a),str (zt b)] w (PRet w (.int .i64 (cmpI (a:Int) (b:Int)))):=by
 have d1:=zsz ha
 have d2:=zsz hb
 have h:=ziA (p:=((a:Int):Rat)) (q:=((b:Int):Rat)) (a:=m+1) (b:=m+1) (w:=w) (by omega) (by omega)
 rw [zka,cmpz] at h
 exact h
theorem as_div (z:Int):((z:Int):Rat)=Rat.divInt z 1:=by
 rw [Rat.divInt_eq_div,show ((1:Int):Rat)=1 from rfl,Rat.div_def,show (1:Rat)⁻¹=1 by decide +kernel,Rat.mul_one]
theorem zpx (n:Nat):((n:Int):Rat) * Rat.divInt 1 2=Rat.divInt (n:Int) 2:=by
 rw [Rat.divInt_eq_div,Rat.divInt_eq_div,Rat.div_def,Rat.div_def,show ((1:Int):Rat)=1 from rfl,Rat.one_mul]
theorem zqg (ha:wl a <= m) (hm:m <= 2 ^ 14):Calls Tryz.prog 173 #[str (zt a)] w (PRet w (str (zad (Rat.divInt (a:Int) 2)))):=by
 have HM:Hid (∀ w,Calls _ _ _ w _):=Hid.mk (fun w=>by
  have d1:=zsz ha
  have e1:Wd (1:Int) 1:=⟨zaf (by unfold B64; omega)⟩
  have e2:Wd (2:Int) 1:=⟨zaf (by unfold B64; omega)⟩
  have d2:Sz (Rat.divInt 1 2) 3:=inferInstance
  have h:=zoh (p:=((a:Int):Rat)) (q:=Rat.divInt 1 2) (a:=m+1) (b:=3) (w:=w) (by omega) (by omega)
  rw [zpx,zpf] at h
  exact h)
 clear ha hm
 go_enter Tryz.func173,Tryz.ntmps173
 go_wp2_with fail
 refine Calls.mono (HM.out _) ?_
 rintro e w1 ⟨rfl,hx1⟩
 go_wp2_with fail
 go_ret
 exact ⟨rfl,zaa⟩
theorem zpI (ha:wl a <= m) (hm:m <= 2 ^ 14):Calls Tryz.prog 90 #[str (zad (Rat.divInt (a:Int) 2))] w (PRet w (str (zt (a / 2)))):=by
 have e1:Wd (a:Int) m:=⟨by rw [Int.natAbs_natCast]; exact ha⟩
 have e2:Wd (2:Int) 1:=⟨zaf (by unfold B64; omega)⟩
 have d2:Sz (Rat.divInt (a:Int) 2) (m+1+1):=inferInstance
 have h:=zo3 (q:=Rat.divInt (a:Int) 2) (a:=m+1+1) (w:=w) (by omega)
 rw [zoM (by decide),show ((a:Int) / 2)=((a / 2:Nat):Int) by simp] at h
 exact h
end
end
section
open Go.Sort Go.Lib
theorem zoJ {a b:Int}:cmpI a b <= 0 ↔ a <= b:=by unfold cmpI; split <;> (try split) <;> constructor <;> intro _ <;> omega
theorem zpp:zad ((10:Int):Rat)=[49,48]:=by decide +kernel
section
variable {w:World} {q:Rat} {s K:Nat}
theorem zqa [d:Sz q s] (hs:s <= 2 ^ 8) (hK:K < 32):Calls Tryz.prog 59 #[str (zad q),.int .i64 (K:Int)] w (PRet w (str (zad (q ^ K)))):=by
 have HS:=Hid.mk hs; have HK:=Hid.mk hK
 have HD:Hid (Sz q s):=Hid.mk d
 obtain ⟨Q,hQ⟩:∃ Q,q ^ K=Q:=⟨_,rfl⟩
 have HQ:=Hid.mk hQ
 rw [hQ]
 have hn:decide ((K:Int) < 0)=false:=by simp
 clear hs hK hQ d
 go_enter Tryz.func59,Tryz.ntmps59
 go_wp2_with fail
 go_loopg [0,1,5] (0+K) (fun gk s0 s1 s2 wr=>∃ (i k:Nat) (A O:Rat),gk=0+k/\s0=str (zad A)/\s1 = .int .i64 (k:Int)/\s2=str (zad O)/\O * A ^ k=Q/\k * 2 ^ i <= 31/\Sz A (s * 2 ^ i)/\Sz O (1+s * 2 ^ i)/\Nxt w wr)
 case atStart=>exact ⟨0,K,q,1,rfl,rfl,rfl,by rw [zoE] <;> rfl,by rw [Rat.one_mul]; exact HQ.out,by have:=HK.out; omega,by have:=HD.out; rw [Nat.pow_zero,Nat.mul_one]; exact this,⟨by show wl 1 <= _; rw [za1]; omega,by show wl 1 <= _; rw [za1]; omega⟩,zaa⟩
 case round=>
  obtain ⟨i,k,A,O,rfl,rfl,rfl,rfl,hq,hk,dA,dO,hx0⟩:=hrel
  have HQ2:=Hid.mk hq
  by_cases h0:k=0
  ·subst h0
   clear hq hk
   go_wp2_with fail
   go_ret
   have:=HQ2.out
   rw [Rat.pow_zero,Rat.mul_one] at this
   exact ⟨by rw [this]; rfl,zaa⟩
  ·have hi:i < 5:=by
    rcases Nat.lt_or_ge i 5 with h | h
    ·exact h
    ·have h1 : 2 ^ 5 <= 2 ^ i := Nat.pow_le_pow_right (by decide) h
     have h2:=Nat.mul_le_mul (show 1 <= k by omega) h1
     omega
   have h2i:2 ^ i <= 16:=Nat.le_trans (Nat.pow_le_pow_right (by decide) (show i <= 4 by omega)) (by decide)
   have hsz:s * 2 ^ i <= 2 ^ 12:=Nat.le_trans (Nat.mul_le_mul HS.out h2i) (by decide)
   have H1:Hid (∀ w,Calls _ _ _ w _):=Hid.mk (fun w=>zoh (p:=O) (q:=A) (a:=1+s * 2 ^ i) (b:=s * 2 ^ i) (w:=w) (by omega) (by omega))
   have H2:Hid (∀ w,Calls _ _ _ w _):=Hid.mk (fun w=>zoh (p:=A) (q:=A) (a:=s * 2 ^ i) (b:=s * 2 ^ i) (w:=w) (by omega) (by omega))
   have e1:Sz (A * A) (s * 2 ^ (i+1)):=by
    have:Sz (A * A) (s * 2 ^ i+s * 2 ^ i):=inferInstance
    rw [Nat.pow_succ,<- Nat.mul_assoc,Nat.mul_two]; exact this
   have e2:Sz (O * A) (1+s * 2 ^ (i+1)):=by
    have:Sz (O * A) (1+s * 2 ^ i+s * 2 ^ i):=inferInstance
    rw [Nat.pow_succ,<- Nat.mul_assoc,Nat.mul_two,<- Nat.add_assoc]; exact this
   have e3:Sz O (1+s * 2 ^ (i+1)):=⟨Nat.le_trans dO.num (by rw [Nat.pow_succ,<- Nat.mul_assoc]; omega),Nat.le_trans dO.den (by rw [Nat.pow_succ,<- Nat.mul_assoc]; omega)⟩
   have hst:=zps hq
   obtain ⟨k2,hk2⟩:∃ k2,k / 2=k2:=⟨_,rfl⟩
   have hk3:k2 * 2 ^ (i+1) <= 31:=by
    have h1:k2 * 2 <= k:=by omega
    have h2:=Nat.mul_le_mul_right (2 ^ i) h1
    rw [Nat.pow_succ,Nat.mul_comm (2 ^ i),<- Nat.mul_assoc]; omega
   have hp:decide ((0:Int) < (k:Int))=true:=by simp; omega
   have hp':(0:Int) < (k:Int):=by omega
   have hkb:k < 32:=by
    have:=Nat.mul_le_mul_left k (show 1 <= 2 ^ i from Nat.one_le_two_pow)
    omega
   have hdv:Int.tdiv (k:Int) 2=(k2:Int):=by rw [Int.tdiv_eq_ediv_of_nonneg (by omega)]; omega
   have hdv':(k:Int) / 2=(k2:Int):=by rw [<- hk2]; omega
   have hw2:IntKind.i64.wrap (k2:Int)=(k2:Int):=by rw [IntKind.wrap_i64]; omega
   rw [hk2] at hst
   have HE1:=Hid.mk e1; have HE2:=Hid.mk e2; have HE3:=Hid.mk e3
   have HLT:=Hid.mk (show k2 < k by omega)
   have HK3:=Hid.mk hk3
   by_cases hodd:k % 2=1
   ·rw [if_pos hodd] at hst
    have HST:=Hid.mk hst
    have hm1:Int.tmod (k:Int) 2=1:=by rw [Int.tmod_eq_emod_of_nonneg (by omega)]; omega
    have hm2:(k:Int) % 2=1:=by omega
    have hkp:k2+k2+1=k:=by omega
    clear hst hq hk hsz h2i hi h0 e1 e2 e3 hk2 hk3 hodd
    go_wp2_with fail
    refine Calls.mono (H1.out _) ?_
    rintro e w1 ⟨rfl,hx1⟩
    go_wp2_with fail
    refine Calls.mono (H2.out _) ?_
    rintro e w2 ⟨rfl,hx2⟩
    go_wp2_with fail
    go_roundg (0+k2)
    case rel=>exact ⟨i+1,k2,A * A,O * A,rfl,rfl,rfl,rfl,HST.out,HK3.out,HE1.out,HE2.out,zaa⟩
    case measure=>have:=HLT.out; omega
   ·rw [if_neg hodd] at hst
    have HST:=Hid.mk hst
    have hm1:Int.tmod (k:Int) 2=0:=by rw [Int.tmod_eq_emod_of_nonneg (by omega)]; omega
    have hm2:(k:Int) % 2=0:=by omega
    have hkp:k2+k2=k:=by omega
    clear hst hq hk hsz h2i hi h0 e1 e2 e3 hk2 hk3 hodd
    go_wp2_with fail
    refine Calls.mono (H2.out _) ?_
    rintro e w2 ⟨rfl,hx2⟩
    go_wp2_with fail
    go_roundg (0+k2)
    case rel=>exact ⟨i+1,k2,A * A,O,rfl,rfl,rfl,rfl,HST.out,HK3.out,HE1.out,HE3.out,zaa⟩
    case measure=>have:=HLT.out; omega
end
end
section
open Go.Sort Go.Lib
section
variable {w:World} {l:List UInt8} {k:Int}
theorem Root_bad (hl:l.length < 2 ^ 40) (he:rootE l k ≠ 0):Calls Tryz.prog 10 #[str l,.int .i64 k] w (PRet w (.tuple #[spv [] [],.int .i64 (rootE l k)])):=by
 obtain ⟨E,hE⟩:∃ E,rootE l k=E:=⟨_,rfl⟩
 rw [hE] at he ⊢
 have HE0:=Hid.mk he
 have H1:=Hid.mk (show readE l ≠ 0 -> E=readE l from fun h=>by rw [<- hE]; exact if_pos h)
 have H2:=Hid.mk (show readE l=0 -> sgnI (readQ l).num < 0 -> E=3 from fun h h2=>by rw [<- hE]; unfold rootE; rw [if_neg (fun h3=>h3 h),if_pos h2])
 have H3:=Hid.mk (show readE l=0 -> ¬ sgnI (readQ l).num < 0 -> E=decE k from fun h h2=>by rw [<- hE]; unfold rootE; rw [if_neg (fun h3=>h3 h),if_neg h2])
 have HR:=Hid.mk (show ∀ w,Calls _ _ _ w _ from fun w=>zdJ (w:=w) hl)
 have sq:Sz (readQ l) 600:=inferInstance
 generalize readQ l=q at *
 generalize readE l=E0 at *
 obtain ⟨c,hc⟩:∃ c,sgnI q.num=c:=⟨_,rfl⟩
 rw [hc] at H2 H3
 have HC:=Hid.mk (show ∀ w v,RatIs w v q -> Calls _ _ _ w _ from fun w v _=>zaT (w:=w) (v1:=v) (q:=q))
 rw [hc] at HC
 have HDC:=Hid.mk (show ∀ w,Calls _ _ _ w _ from fun w=>zc4 (w:=w) (k:=k))
 obtain ⟨D,hD⟩:∃ D,decE k=D:=⟨_,rfl⟩
 rw [hD] at H3 HDC
 clear hl hE he hc hD
 by_cases h0:E0=0
 ·subst h0
  by_cases hc:c < 0
  ·have hE := H2.out rfl hc
   have hcd:decide (c < 0)=true:=by simpa using hc
   have HEE:=Hid.mk hE
   clear hE
   go_enter Tryz.func10,Tryz.ntmps10
   go_wp2_with fail
   refine Calls.mono (HR.out _) ?_
   rintro e w1 ⟨q1,rfl,_,_⟩
   go_wp2_with fail
   refine Calls.mono (HC.out _ _ (by infer_instance)) ?_
   rintro e w2 ⟨rfl,_⟩
   go_wp2_with fail
   simp [bodyPost,results,Tryz.results10,go_sem]
   exact ⟨by rw [HEE.out] <;> rfl,zaa⟩
  ·have hE := H3.out rfl hc
   have hcd:decide (c < 0)=false:=by simpa using hc
   have hd:D ≠ 0:=fun h=>HE0.out (by rw [hE]; exact h)
   have hdb:(D != 0)=true:=by simpa using hd
   have HEE:=Hid.mk hE
   clear hE hd
   go_enter Tryz.func10,Tryz.ntmps10
   go_wp2_with fail
   refine Calls.mono (HR.out _) ?_
   rintro e w1 ⟨q1,rfl,_,_⟩
   go_wp2_with fail
   refine Calls.mono (HC.out _ _ (by infer_instance)) ?_
   rintro e w2 ⟨rfl,_⟩
   go_wp2_with fail
   refine Calls.mono (HDC.out _) ?_
   rintro e w3 ⟨rfl,_⟩
   go_wp2_with fail
   simp [bodyPost,results,Tryz.results10,go_sem]
   exact ⟨by rw [HEE.out] <;> rfl,zaa⟩
 ·have hE := H1.out h0
  have hb:(E0 != 0)=true:=by simpa using h0
  have HEE:=Hid.mk hE
  clear hE
  go_enter Tryz.func10,Tryz.ntmps10
  go_wp2_with fail
  refine Calls.mono (HR.out _) ?_
  rintro e w1 ⟨q1,rfl,_,_⟩
  go_wp2_with fail
  simp [bodyPost,results,Tryz.results10,go_sem]
  exact ⟨by rw [HEE.out] <;> rfl,zaa⟩
end
end
section
open Go.Sort Go.Lib
theorem sgq_nonneg {q:Rat} (h:0 <= q.num):0 <= sgQ q:=by
 unfold sgQ
 split
 ·omega
 ·rw [if_neg (by omega)]; omega
theorem zov:∀ n:Nat,∃ r,zb5 n r
 | 0=>⟨0,by unfold zb5; omega⟩
 | n+1=>by
  obtain ⟨r,h1,h2⟩:=zov n
  by_cases h:(r+1) * (r+1) <= n+1
  ·refine ⟨r + 1, h, ?_⟩
   have:=Nat.mul_lt_mul_of_lt_of_le (show r+1 < r+1+1 by omega) (show r+1 <= r+1+1 by omega) (by omega)
   omega
  ·exact ⟨r,by omega,by omega⟩
theorem few30 {l:List UInt8} (h:fewP l 30):readE l=0/\Sz (readQ l) 2/\l.length <= 62:=by
 have hl:∀ n,(Lib.decDigits n).length <= 30 -> wl n <= 2:=fun n hn=>by
  have h1:=Lib.lt_pow_nDigits n
  rw [<- Lib.decDigits_length] at h1
  have h2:n < 10 ^ 30:=Nat.lt_of_lt_of_le h1 (Nat.pow_le_pow_right (by decide) (by omega))
  exact zaf (Nat.lt_of_lt_of_le h2 (by unfold B64; decide))
 exact ⟨h.2.1,⟨hl _ h.2.2.1,hl _ h.2.2.2⟩,h.1⟩
theorem zqp {k:Nat} (hk:k <= 12):Wd ((10:Int) ^ k) 1:=⟨by
 rw [Int.natAbs_pow]
 exact zaf (Nat.lt_of_le_of_lt (Nat.pow_le_pow_right (by decide) hk) (by unfold B64; decide))⟩
theorem zp9 {x:Rat} {rn rd r k m:Nat} (d:Sz x m) (h1:1 <= m) (hk:k <= 12) (hn:zb5 x.num.natAbs rn) (hd:zb5 x.den rd) (hr:zb5 (x.num.natAbs * 100 ^ k / x.den) r):Sz (rootI x rn rd r k).1 (m+m+5)/\Sz (rootI x rn rd r k).2 (m+m+5):=by
 have w1:Wd (rn:Int) m:=zd7 hn d.num
 have w2:Wd (rd:Int) m:=zd7 hd d.den
 have wf:wl (x.num.natAbs * 100 ^ k / x.den) <= m+2:=by
  refine Nat.le_trans (zar (Nat.div_le_self _ _)) ?_
  have h3:=zgy x.num.natAbs (100 ^ k)
  have h4:wl (100 ^ k) <= 2:=zaf (Nat.lt_of_le_of_lt (Nat.pow_le_pow_right (by decide) hk) (by unfold B64; decide))
  have:=d.num
  omega
 have w3:Wd (r:Int) (m+2):=zd7 hr wf
 have w4:=zqp hk
 have w5:Wd ((r:Int)+1) (m+3):=⟨by
  have h5:=w3.out
  rw [Int.natAbs_natCast] at h5
  rw [show ((r:Int)+1).natAbs=r+1 by omega]
  have:=zhx r 1; have:=za1; omega⟩
 have s1:Sz (Rat.divInt (rn:Int) (rd:Int)) (m+m+1):=inferInstance
 have s2:Sz (Rat.divInt (r:Int) ((10:Int) ^ k)) (m+2+1+1):=sz_divInt (a:=m+2) (b:=1) (h1:=w3) (h2:=w4)
 have s3:Sz (Rat.divInt ((r:Int)+1) ((10:Int) ^ k)) (m+3+1+1):=sz_divInt (a:=m+3) (b:=1) (h1:=w5) (h2:=w4)
 unfold rootI
 split
 ·exact ⟨s1.up (by omega),s1.up (by omega)⟩
 ·exact ⟨s2.up (by omega),s3.up (by omega)⟩
theorem zpj {l:List UInt8} {n:Nat} (h1:readE l=0) (h2:0 <= (readQ l).num) (h3:1 <= n) (h4:n <= 12):rootE l (n:Int)=0:=by
 unfold rootE
 rw [if_neg (fun h=>h h1),if_neg (by unfold sgnI; rw [if_neg (by omega)]; split <;> decide)]
 unfold decE
 rw [if_neg (by omega)]
theorem zo8 {l:List UInt8} {k:Int} (h1:readE l=0) (h2:(readQ l).num < 0):rootE l k=3:=by
 unfold rootE
 rw [if_neg (fun h=>h h1),if_pos (by unfold sgnI; rw [if_pos h2]; decide)]
theorem zp8 {l:List UInt8} {x:Rat} {rn rd r n:Nat} (h:fewP l 30) (hx:readQ l=x) (h0:0 <= x.num) (h3:1 <= n) (h4:n <= 12) (hn:zb5 x.num.natAbs rn) (hd:zb5 x.den rd) (hr:zb5 (x.num.natAbs * 100 ^ n / x.den) r):
  Sz (rootI x rn rd r n).1 9/\Sz (rootI x rn rd r n).2 9/\∀ (w:World) [Glo w],Calls Tryz.prog 10 #[str l,.int .i64 (n:Int)] w (PRet w (.tuple #[spv (zad (rootI x rn rd r n).1) (zad (rootI x rn rd r n).2),.int .i64 0])):=by
 obtain ⟨e,d,hl⟩:=few30 h
 rw [hx] at d
 obtain ⟨s1,s2⟩:=zp9 d (by decide) h4 hn hd hr
 refine ⟨s1,s2,fun w _=>?_⟩
 have hc:=zql (w:=w) (l:=l) (x:=x) (rn:=rn) (rd:=rd) (r:=r) (n:=n) (by omega) hx (zpj e (by rw [hx]; exact h0) h3 h4) hn hd hr
 rw [zon (zoc s1 (by decide) (by decide)) (zoc s2 (by decide) (by decide))] at hc
 exact hc
theorem zpC {p:Rat} {n:Nat} (d:Sz p 2) (h3:1 <= n) (h4:n <= 12):∀ (w:World) [Glo w],Calls Tryz.prog 10 #[str (zad (p * p)),.int .i64 (n:Int)] w (PRet w (.tuple #[spv (zad (abQ p)) (zad (abQ p)),.int .i64 0])):=by
 have dd:Sz (p * p) 4:=(inferInstance:Sz (p * p) (2+2))
 have hf:=zoc dd (by decide) (by decide)
 obtain ⟨e,q⟩:=zoj hf
 obtain ⟨e1,e2⟩:=zo1 p
 have h0:0 <= (p * p).num:=by rw [e1,<- Int.natAbs_mul_self' p.num]; exact Int.mul_nonneg (by omega) (by omega)
 have hn:zb5 (p * p).num.natAbs p.num.natAbs:=by rw [e1,Int.natAbs_mul]; exact zpe _
 have hd:zb5 (p * p).den p.den:=by rw [e2]; exact zpe _
 obtain ⟨r,hr⟩:=zov ((p * p).num.natAbs * 100 ^ n / (p * p).den)
 have da:Sz (abQ p) 2:=by unfold abQ; split; exact inferInstance; exact d
 have ha:=zoc da (by decide) (by decide)
 intro w _
 have hc:=zql (w:=w) (l:=zad (p * p)) (x:=p * p) (rn:=p.num.natAbs) (rd:=p.den) (r:=r) (n:=n) (by have:=zol hf; omega) q (zpj e (by rw [q]; exact h0) h3 h4) hn hd hr
 rw [zo7,zon ha ha] at hc
 exact hc
theorem tenth (k:Nat):(((10:Int):Rat)⁻¹) ^ k=Rat.divInt 1 (10 ^ k):=by
 have h10:((10:Int):Rat)⁻¹=Rat.divInt 1 10:=by decide +kernel
 rw [h10]
 induction k with
 | zero=>rw [Rat.pow_zero]; decide +kernel
 | succ n ih=>rw [Rat.pow_succ,ih,Rat.divInt_mul_divInt,Int.pow_succ]; simp
theorem lspan_c {w:World} {a b:List UInt8}:Calls Tryz.prog 56 #[str a,str b] w (PRet w (spv a b)):=by
 go_enter Tryz.func56,Tryz.ntmps56
 go_wp2_with fail
 simp [bodyPost,results,Tryz.results56,go_sem]
 exact ⟨rfl,zaa⟩
section
variable {w:World}
theorem zqn {K:Nat} (h1:1 <= K) (hK:K < 32):Calls Tryz.prog 59 #[.string ⟨#[49,48]⟩,.int .i64 (-(K:Int))] w (PRet w (str (zad (Rat.divInt 1 (10 ^ K))))):=by
 have d10:Sz ((10:Int):Rat) 2:=zsz (n:=10) (zaf (by unfold B64; omega))
 have HRc:Hid (∀ w,Calls _ _ #[.string ⟨#[49,48]⟩] w _):=Hid.mk (fun w=>by
  have h:=zp2 (q:=((10:Int):Rat)) (a:=2) (w:=w) (by decide) (by decide +kernel)
  rw [zpp] at h; exact h)
 have d11:Sz (((10:Int):Rat)⁻¹) 5:=zpH (q:=((10:Int):Rat)) (a:=2)
 have HP:Hid (∀ w,Calls _ _ _ w _):=Hid.mk (fun w=>zqa (q:=((10:Int):Rat)⁻¹) (s:=5) (K:=K) (w:=w) (by decide) hK)
 rw [tenth] at HP
 have hneg:decide (-(K:Int) < 0)=true:=by simp; omega
 have hneg' : -(K:Int) < 0:=by omega
 have hw:IntKind.i64.wrap (0 - -(K:Int))=(K:Int):=by rw [IntKind.wrap_i64]; omega
 have hw2:IntKind.i64.wrap (K:Int)=(K:Int):=by rw [IntKind.wrap_i64]; omega
 generalize zad (((10:Int):Rat)⁻¹)=T at *
 generalize zad (Rat.divInt 1 (10 ^ K))=P at *
 clear d10 d11 h1 hK
 go_enter Tryz.func59,Tryz.ntmps59
 go_wp2_with fail
 refine Calls.mono (HRc.out _) ?_
 rintro e w1 ⟨rfl,hx1⟩
 go_wp2_with fail
 refine Calls.mono (HP.out _) ?_
 rintro e w2 ⟨rfl,hx2⟩
 go_wp2_with fail
 go_ret
 exact ⟨rfl,zaa⟩
theorem zqo {x y:Rat × Rat} {k:Nat} [d1:Sz x.1 k] [d2:Sz x.2 k] [d3:Sz y.1 k] [d4:Sz y.2 k] (hk:k <= 2 ^ 15) (h1:y.1 <= x.1) (h2:x.2 <= y.2):Calls Tryz.prog 58 #[spanR x,spanR y] w (PRet w (.bool true)):=by
 have H1:Hid (∀ w,Calls _ _ _ w _):=Hid.mk (fun w=>ziA (p:=y.1) (q:=x.1) (a:=k) (b:=k) (w:=w) hk hk)
 have H2:Hid (∀ w,Calls _ _ _ w _):=Hid.mk (fun w=>ziA (p:=x.2) (q:=y.2) (a:=k) (b:=k) (w:=w) hk hk)
 rw [zka] at H1 H2
 have c1:=zga.2 h1
 have c2:=zga.2 h2
 generalize cmpQ y.1 x.1=C1 at *
 generalize cmpQ x.2 y.2=C2 at *
 have k1:decide (C1 <= 0)=true:=by simpa using c1
 have k2:decide (C2 <= 0)=true:=by simpa using c2
 clear h1 h2
 go_enter Tryz.func58,Tryz.ntmps58
 go_wp2_with fail
 refine Calls.mono (H1.out _) ?_
 rintro e w1 ⟨rfl,hx1⟩
 go_wp2_with fail
 refine Calls.mono (H2.out _) ?_
 rintro e w2 ⟨rfl,hx2⟩
 go_wp2_with fail
 go_ret
 exact ⟨rfl,zaa⟩
end
end
section
open Go.Sort Go.Lib
section
variable {a b:List UInt8} {k:Int} {w:World}
theorem zpa (HA:Hid zgf) [hg:Glo w] (h:¬ fewP a 30 ∨ ¬ fewP b 30 ∨ k < 1 ∨ 10 < k):
  Calls Tryz.prog 7 #[str a,str b,.int .i64 k] w (fun e w'=>e = .returned (.bool true)/\Below w.heap.size w w'):=by
 have HF1:Hid (∀ w,Calls _ _ _ w _):=Hid.mk (fun w=>zoB (l:=a) (d:=30) (w:=w) (by decide))
 have HF2:Hid (∀ w,Calls _ _ _ w _):=Hid.mk (fun w=>zoB (l:=b) (d:=30) (w:=w) (by decide))
 by_cases h1:fewP a 30
 ·rw [decide_eq_true h1] at HF1
  by_cases h2:fewP b 30
  ·rw [decide_eq_true h2] at HF2
   have hk:k < 1 ∨ 10 < k:=by rcases h with h | h | h <;> first | exact absurd h1 h | exact absurd h2 h | exact h
   clear h h1 h2
   rcases hk with hk | hk
   ·have hd : decide (k < 1) = true := by simpa using hk
    go_enter Tryz.func7,Tryz.ntmps7
    go_wp2_with fail
    refine (HA.out _).mono ?_
    rintro e w1 ⟨rfl,hb1⟩
    have hx1:Nxt w w1:=⟨hb1⟩
    have hg1:Glo w1:=Glo.nxt (a:=w)
    clear hb1
    go_wp2_with fail
    refine Calls.mono (HF1.out _) ?_
    rintro e w2 ⟨rfl,hx2⟩
    have hw2:Nxt w w2:=zaa
    go_wp2_with fail
    refine Calls.mono (HF2.out _) ?_
    rintro e w8 ⟨rfl,hx8⟩
    have hw8:Nxt w w8:=zaa
    have hg8:Glo w8:=Glo.nxt (a:=w)
    go_wp2_with fail
    refine (HA.out _).mono ?_
    rintro e w9 ⟨rfl,hb9⟩
    have hx9:Nxt w8 w9:=⟨hb9⟩
    clear hb9
    go_wp2_with fail
    go_ret
    exact ⟨rfl,(zaa:Nxt w w9).out⟩
   ·have hd : decide (10 < k) = true := by simpa using hk
    have hd2:decide (k < 1)=false:=by simp; omega
    go_enter Tryz.func7,Tryz.ntmps7
    go_wp2_with fail
    refine (HA.out _).mono ?_
    rintro e w1 ⟨rfl,hb1⟩
    have hx1:Nxt w w1:=⟨hb1⟩
    have hg1:Glo w1:=Glo.nxt (a:=w)
    clear hb1
    go_wp2_with fail
    refine Calls.mono (HF1.out _) ?_
    rintro e w2 ⟨rfl,hx2⟩
    have hw2:Nxt w w2:=zaa
    go_wp2_with fail
    refine Calls.mono (HF2.out _) ?_
    rintro e w8 ⟨rfl,hx8⟩
    have hw8:Nxt w w8:=zaa
    have hg8:Glo w8:=Glo.nxt (a:=w)
    go_wp2_with fail
    refine (HA.out _).mono ?_
    rintro e w9 ⟨rfl,hb9⟩
    have hx9:Nxt w8 w9:=⟨hb9⟩
    clear hb9
    go_wp2_with fail
    go_ret
    exact ⟨rfl,(zaa:Nxt w w9).out⟩
  ·rw [decide_eq_false h2] at HF2
   clear h h1 h2
   go_enter Tryz.func7,Tryz.ntmps7
   go_wp2_with fail
   refine (HA.out _).mono ?_
   rintro e w1 ⟨rfl,hb1⟩
   have hx1:Nxt w w1:=⟨hb1⟩
   have hg1:Glo w1:=Glo.nxt (a:=w)
   clear hb1
   go_wp2_with fail
   refine Calls.mono (HF1.out _) ?_
   rintro e w2 ⟨rfl,hx2⟩
   have hw2:Nxt w w2:=zaa
   go_wp2_with fail
   refine Calls.mono (HF2.out _) ?_
   rintro e w8 ⟨rfl,hx8⟩
   have hw8:Nxt w w8:=zaa
   have hg8:Glo w8:=Glo.nxt (a:=w)
   go_wp2_with fail
   refine (HA.out _).mono ?_
   rintro e w9 ⟨rfl,hb9⟩
   have hx9:Nxt w8 w9:=⟨hb9⟩
   clear hb9
   go_wp2_with fail
   go_ret
   exact ⟨rfl,(zaa:Nxt w w9).out⟩
 ·rw [decide_eq_false h1] at HF1
  clear h h1
  go_enter Tryz.func7,Tryz.ntmps7
  go_wp2_with fail
  refine (HA.out _).mono ?_
  rintro e w1 ⟨rfl,hb1⟩
  have hx1:Nxt w w1:=⟨hb1⟩
  have hg1:Glo w1:=Glo.nxt (a:=w)
  clear hb1
  go_wp2_with fail
  refine Calls.mono (HF1.out _) ?_
  rintro e w8 ⟨rfl,hx8⟩
  have hw8:Nxt w w8:=zaa
  have hg8:Glo w8:=Glo.nxt (a:=w)
  go_wp2_with fail
  refine (HA.out _).mono ?_
  rintro e w9 ⟨rfl,hb9⟩
  have hx9:Nxt w8 w9:=⟨hb9⟩
  clear hb9
  go_wp2_with fail
  go_ret
  exact ⟨rfl,(zaa:Nxt w w9).out⟩
end
section
variable {a b:List UInt8} {n:Nat} {w:World}
theorem zoP (HA:Hid zgf) [hg:Glo w] (h1:fewP a 30) (h2:fewP b 30) (k1:1 <= n) (k2:n <= 10) (hneg:(readQ a).num < 0):
  Calls Tryz.prog 7 #[str a,str b,.int .i64 (n:Int)] w (fun e w'=>e = .returned (.bool true)/\Below w.heap.size w w'):=by
 obtain ⟨ea,da,la⟩:=few30 h1
 obtain ⟨eb,db,lb⟩:=few30 h2
 have HF1:Hid (∀ w,Calls _ _ _ w _):=Hid.mk (fun w=>zoB (l:=a) (d:=30) (w:=w) (by decide))
 have HF2:Hid (∀ w,Calls _ _ _ w _):=Hid.mk (fun w=>zoB (l:=b) (d:=30) (w:=w) (by decide))
 rw [decide_eq_true h1] at HF1
 rw [decide_eq_true h2] at HF2
 have HR1:Hid (∀ w,Calls _ _ _ w _):=Hid.mk (fun w=>Root_bad (l:=a) (k:=(n:Int)) (w:=w) (by omega) (by rw [zo8 ea hneg]; decide))
 have HR2:Hid (∀ w,Calls _ _ _ w _):=Hid.mk (fun w=>Root_bad (l:=a) (k:=((n+2:Nat):Int)) (w:=w) (by omega) (by rw [zo8 ea hneg]; decide))
 rw [zo8 ea hneg] at HR1 HR2
 have HMb:Hid (∀ w,Calls _ _ _ w _):=Hid.mk (fun w=>zoh (p:=readQ b) (q:=readQ b) (a:=2) (b:=2) (w:=w) (by decide) (by decide))
 have HRB:Hid (∀ (w:World) [Glo w],Calls _ _ _ w _):=Hid.mk (fun w _=>zpC (p:=readQ b) (n:=n) db k1 (by omega) w)
 have HAb:Hid (∀ w,Calls _ _ _ w _):=Hid.mk (fun w=>zmA (q:=readQ b) (w:=w))
 have HSg:Hid (∀ w,Calls _ _ _ w _):=Hid.mk (fun w=>zo5 (q:=readQ a) (w:=w))
 rw [zf8 eb] at HMb HAb
 rw [zf8 ea] at HSg
 have hs:=zjM.2 hneg
 generalize sgQ (readQ a)=S at *
 generalize zad (readQ b * readQ b)=B2 at *
 generalize zad (abQ (readQ b))=AB at *
 have hsd:decide (S < 0)=true:=by simpa using hs
 have hw:IntKind.i64.wrap ((n:Int)+2)=((n+2:Nat):Int):=by rw [IntKind.wrap_i64]; omega
 have hk1:decide ((n:Int) < 1)=false:=by simp; omega
 have hk2:decide ((10:Int) < (n:Int))=false:=by simp; omega
 clear h1 h2 ea eb da db la lb k1 k2 hneg hs
 go_enter Tryz.func7,Tryz.ntmps7
 go_wp2_with fail
 refine (HA.out _).mono ?_
 rintro e w1 ⟨rfl,hb1⟩
 have hx1:Nxt w w1:=⟨hb1⟩
 have hg1:Glo w1:=Glo.nxt (a:=w)
 clear hb1
 go_wp2_with fail
 refine Calls.mono (HF1.out _) ?_
 rintro e w2 ⟨rfl,hx2⟩
 have hw2:Nxt w w2:=zaa
 go_wp2_with fail
 refine Calls.mono (HF2.out _) ?_
 rintro e w3 ⟨rfl,hx3⟩
 have hw3:Nxt w w3:=zaa
 go_wp2_with fail
 refine Calls.mono (HR1.out _) ?_
 rintro e w4 ⟨rfl,hx4⟩
 have hw4:Nxt w w4:=zaa
 go_wp2_with fail
 refine Calls.mono (HR2.out _) ?_
 rintro e w5 ⟨rfl,hx5⟩
 have hw5:Nxt w w5:=zaa
 have hg5:Glo w5:=Glo.nxt (a:=w)
 go_wp2_with fail
 refine Calls.mono (HMb.out _) ?_
 rintro e w6 ⟨rfl,hx6⟩
 have hw6:Nxt w w6:=zaa
 have hg6:Glo w6:=Glo.nxt (a:=w)
 go_wp2_with fail
 refine Calls.mono (HRB.out _) ?_
 rintro e w7 ⟨rfl,hx7⟩
 have hw7:Nxt w w7:=zaa
 go_wp2_with fail
 (refine Code.nameW ?_; intro W hW; have hu:undef=Value.tuple #[]:=rfl; first | (go_region_held3 (fun w'=>ButO W [] w') (exact zab) (((first | (go_at_call 57; refine Calls.mono (HAb.out _) ?_; rintro e v1 ⟨rfl,_⟩) | (go_at_call 56; refine Calls.mono (lspan_c) ?_; rintro e v1 ⟨rfl,_⟩))))) | fail)
 all_goals go_wp2_with fail
 all_goals refine Calls.mono (HSg.out _) ?_
 all_goals (
  rintro e w8 ⟨rfl,hx8⟩
  go_wp2_with fail
  go_ret
  exact ⟨rfl,(zaa:Nxt w _).out⟩)
theorem zoO (HA:Hid zgf) [hg:Glo w] (h1:fewP a 30) (h2:fewP b 30) (k1:1 <= n) (k2:n <= 10) (h0:0 <= (readQ a).num):
  Calls Tryz.prog 7 #[str a,str b,.int .i64 (n:Int)] w (fun e w'=>e = .returned (.bool true)/\Below w.heap.size w w'):=by
 obtain ⟨ea,da,la⟩:=few30 h1
 obtain ⟨eb,db,lb⟩:=few30 h2
 have HF1:Hid (∀ w,Calls _ _ _ w _):=Hid.mk (fun w=>zoB (l:=a) (d:=30) (w:=w) (by decide))
 have HF2:Hid (∀ w,Calls _ _ _ w _):=Hid.mk (fun w=>zoB (l:=b) (d:=30) (w:=w) (by decide))
 rw [decide_eq_true h1] at HF1
 rw [decide_eq_true h2] at HF2
 obtain ⟨x,hx⟩:∃ x,readQ a=x:=⟨_,rfl⟩
 rw [hx] at h0 da
 obtain ⟨rn,hn⟩:=zov x.num.natAbs
 obtain ⟨rd,hd⟩:=zov x.den
 obtain ⟨r,hr⟩:=zov (x.num.natAbs * 100 ^ n / x.den)
 obtain ⟨s,hs⟩:=zov (x.num.natAbs * 100 ^ (n+2) / x.den)
 obtain ⟨c1,c2,hc⟩:=zp8 h1 hx h0 k1 (by omega) hn hd hr
 obtain ⟨c3,c4,hf⟩:=zp8 h1 hx h0 (show 1 <= n+2 by omega) (by omega) hn hd hs
 have pos:=zp0 (x:=x) (rn:=rn) (rd:=rd) (r:=r) (k:=n)
 have o1:=zpr (x:=x) (rn:=rn) (rd:=rd) (r:=r) (k:=n)
 have o2:=zpr (x:=x) (rn:=rn) (rd:=rd) (r:=s) (k:=n+2)
 have lo:=zp1 h0 hn hd hr
 have hi:=zpF h0 hn hd hr
 have wi:=zpD (x:=x) (rn:=rn) (rd:=rd) (r:=r) (k:=n)
 obtain ⟨ne1,ne2⟩:=zpE (rn:=rn) (rd:=rd) h0 hr hs
 generalize rootI x rn rd r n=R at *
 generalize rootI x rn rd s (n+2)=F at *
 have i1:ChkOk (zad R.1) (zad R.2):=zpn ⟨o1⟩ (zoc c1 (by decide) (by decide)) (zoc c2 (by decide) (by decide))
 have i2:ChkOk (zad F.1) (zad F.2):=zpn ⟨o2⟩ (zoc c3 (by decide) (by decide)) (zoc c4 (by decide) (by decide))
 have HIn:Hid (∀ w,Calls _ _ _ w _):=Hid.mk (fun w=>zqo (x:=F) (y:=R) (k:=9) (w:=w) (by decide) ne1 ne2)
 have HSr:Hid (∀ w,Calls _ _ _ w _):=Hid.mk (fun w=>zo5 (q:=R.1) (w:=w))
 have hsr:=sgq_nonneg (Rat.num_nonneg.2 pos)
 have HM1:Hid (∀ w,Calls _ _ _ w _):=Hid.mk (fun w=>zoh (p:=R.1) (q:=R.1) (a:=9) (b:=9) (w:=w) (by decide) (by decide))
 have HM2:Hid (∀ w,Calls _ _ _ w _):=Hid.mk (fun w=>zoh (p:=R.2) (q:=R.2) (a:=9) (b:=9) (w:=w) (by decide) (by decide))
 have z1:Sz (R.1 * R.1) 18:=(inferInstance:Sz (R.1 * R.1) (9+9))
 have z2:Sz (R.2 * R.2) 18:=(inferInstance:Sz (R.2 * R.2) (9+9))
 have HC1:Hid (∀ w,Calls _ _ _ w _):=Hid.mk (fun w=>ziA (p:=R.1 * R.1) (q:=x) (a:=18) (b:=2) (w:=w) (by decide) (by decide))
 have HC2:Hid (∀ w,Calls _ _ _ w _):=Hid.mk (fun w=>ziA (p:=R.2 * R.2) (q:=x) (a:=18) (b:=2) (w:=w) (by decide) (by decide))
 have HSu:Hid (∀ w,Calls _ _ _ w _):=Hid.mk (fun w=>znS (p:=R.2) (q:=R.1) (a:=9) (b:=9) (w:=w) (by decide) (by decide))
 have z3:Sz (R.2 - R.1) 19:=by rw [Rat.sub_eq_add_neg]; exact zmT (q:=R.2) (r := -R.1) (a:=9) (b:=9)
 have wt:=zqp (k:=n) (by omega)
 have z4:Sz (Rat.divInt 1 ((10:Int) ^ n)) 3:=inferInstance
 have HPw:Hid (∀ w,Calls _ _ _ w _):=Hid.mk (fun w=>zqn (K:=n) (w:=w) k1 (by omega))
 have HC3:Hid (∀ w,Calls _ _ _ w _):=Hid.mk (fun w=>ziA (p:=R.2 - R.1) (q:=Rat.divInt 1 ((10:Int) ^ n)) (a:=19) (b:=3) (w:=w) (by decide) (by decide))
 rw [zka] at HC1 HC2 HC3
 have d1:=zga.2 lo
 have d2:=zjr.2 hi
 have d3:=zga.2 wi
 generalize cmpQ (R.1 * R.1) x=C1 at *
 generalize cmpQ (R.2 * R.2) x=C2 at *
 generalize cmpQ (R.2 - R.1) (Rat.divInt 1 ((10:Int) ^ n))=C3 at *
 have HR1:=Hid.mk hc
 have HR2:=Hid.mk hf
 have HMb:Hid (∀ w,Calls _ _ _ w _):=Hid.mk (fun w=>zoh (p:=readQ b) (q:=readQ b) (a:=2) (b:=2) (w:=w) (by decide) (by decide))
 have HRB:Hid (∀ (w:World) [Glo w],Calls _ _ _ w _):=Hid.mk (fun w _=>zpC (p:=readQ b) (n:=n) db k1 (by omega) w)
 have HAb:Hid (∀ w,Calls _ _ _ w _):=Hid.mk (fun w=>zmA (q:=readQ b) (w:=w))
 have HSg:Hid (∀ w,Calls _ _ _ w _):=Hid.mk (fun w=>zo5 (q:=x) (w:=w))
 rw [zf8 eb] at HMb HAb
 have hxa:zad x=a:=by rw [<- hx]; exact zf8 ea
 rw [hxa] at HSg HC1 HC2
 have hs0:0 <= sgQ x:=sgq_nonneg h0
 generalize sgQ x=S at *
 generalize sgQ R.1=SR at *
 generalize zad (readQ b * readQ b)=B2 at *
 generalize zad (abQ (readQ b))=AB at *
 have e1:spanR F=spv (zad F.1) (zad F.2):=rfl
 have e2:spanR R=spv (zad R.1) (zad R.2):=rfl
 rw [e1,e2] at HIn
 generalize zad (R.1 * R.1)=M1 at *
 generalize zad (R.2 * R.2)=M2 at *
 generalize zad (R.2 - R.1)=D at *
 generalize zad (Rat.divInt 1 ((10:Int) ^ n))=P at *
 generalize zad R.1=R1 at *
 generalize zad R.2=R2 at *
 generalize zad F.1=F1 at *
 generalize zad F.2=F2 at *
 have im1:Mu9 R1 R1 M1:=⟨HM1.out⟩
 have im2:Mu9 R2 R2 M2:=⟨HM2.out⟩
 have ic1:Cm9 M1 a C1:=⟨HC1.out⟩
 have ic2:Cm9 M2 a C2:=⟨HC2.out⟩
 have ic3:Cm9 D P C3:=⟨HC3.out⟩
 clear HM1 HM2 HC1 HC2 HC3
 have hsd:decide (S < 0)=false:=by simp; omega
 have hsr2:decide (SR < 0)=false:=by simp; omega
 have j1:decide (C1 <= 0)=true:=by simpa using d1
 have j2:decide (0 <= C2)=true:=by simpa using d2
 have j3:decide (C3 <= 0)=true:=by simpa using d3
 have hw:IntKind.i64.wrap ((n:Int)+2)=((n+2:Nat):Int):=by rw [IntKind.wrap_i64]; omega
 have hwm:IntKind.i64.wrap (0 - (n:Int)) = -(n:Int):=by rw [IntKind.wrap_i64]; omega
 have hwn:IntKind.i64.wrap (-(n:Int)) = -(n:Int):=by rw [IntKind.wrap_i64]; omega
 have hk1:decide ((n:Int) < 1)=false:=by simp; omega
 have hk2:decide ((10:Int) < (n:Int))=false:=by simp; omega
 clear h1 h2 ea eb da db la lb k1 k2 h0 hx hn hd hr hs c1 c2 c3 c4 hc hf pos o1 o2 lo hi wi ne1 ne2 hsr z1 z2 z3 z4 wt d1 d2 d3 hxa hs0 e1 e2
 go_enter Tryz.func7,Tryz.ntmps7
 go_wp2_with fail
 refine (HA.out _).mono ?_
 rintro e w1 ⟨rfl,hb1⟩
 have hx1:Nxt w w1:=⟨hb1⟩
 have hg1:Glo w1:=Glo.nxt (a:=w)
 clear hb1
 go_wp2_with fail
 refine Calls.mono (HF1.out _) ?_
 rintro e w2 ⟨rfl,hx2⟩
 have hw2:Nxt w w2:=zaa
 go_wp2_with fail
 refine Calls.mono (HF2.out _) ?_
 rintro e w3 ⟨rfl,hx3⟩
 have hw3:Nxt w w3:=zaa
 have hg3:Glo w3:=Glo.nxt (a:=w)
 go_wp2_with fail
 refine Calls.mono (HR1.out _) ?_
 rintro e w4 ⟨rfl,hx4⟩
 have hw4:Nxt w w4:=zaa
 have hg4:Glo w4:=Glo.nxt (a:=w)
 go_wp2_with fail
 refine Calls.mono (HR2.out _) ?_
 rintro e w5 ⟨rfl,hx5⟩
 have hw5:Nxt w w5:=zaa
 have hg5:Glo w5:=Glo.nxt (a:=w)
 go_wp2_with fail
 refine Calls.mono (HMb.out _) ?_
 rintro e w6 ⟨rfl,hx6⟩
 have hw6:Nxt w w6:=zaa
 have hg6:Glo w6:=Glo.nxt (a:=w)
 go_wp2_with fail
 refine Calls.mono (HRB.out _) ?_
 rintro e w7 ⟨rfl,hx7⟩
 have hw7:Nxt w w7:=zaa
 go_wp2_with fail
 (refine Code.nameW ?_; intro W hW; have hu:undef=Value.tuple #[]:=rfl; first | (go_region_held3 (fun w'=>ButO W [] w') (exact zab) (((first | (go_at_call 57; refine Calls.mono (HAb.out _) ?_; rintro e v1 ⟨rfl,_⟩) | (go_at_call 56; refine Calls.mono (lspan_c) ?_; rintro e v1 ⟨rfl,_⟩))))) | fail)
 all_goals go_wp2_with fail
 all_goals refine Calls.mono (HSg.out _) ?_
 all_goals (
  rintro e w8 ⟨rfl,hx8⟩
  go_wp2_with fail)
 all_goals (refine Code.nameW ?_; intro W hW; have hu:undef=Value.tuple #[]:=rfl; first | (go_region_held3 (fun w'=>ButO W [] w') (exact zab) (((first | (go_at_call 19; refine Calls.mono (chk_o) ?_; rintro e v1 ⟨rfl,_⟩) | (go_at_call 58; refine Calls.mono (HIn.out _) ?_; rintro e v1 ⟨rfl,_⟩) | (go_at_call 14; refine Calls.mono (HSr.out _) ?_; rintro e v1 ⟨rfl,_⟩))))) | fail)
 all_goals go_wp2_with ((first | (go_at_call 49; refine Calls.mono (mu9_o) ?_; rintro e v1 ⟨rfl,_⟩) | (go_at_call 50; refine Calls.mono (cm9_o) ?_; rintro e v1 ⟨rfl,_⟩) | (go_at_call 48; refine Calls.mono (HSu.out _) ?_; rintro e v1 ⟨rfl,_⟩) | (go_at_call 59; refine Calls.mono (HPw.out _) ?_; rintro e v1 ⟨rfl,_⟩)))
 all_goals go_ret
 all_goals exact ⟨rfl,(zaa:Nxt w _).out⟩
theorem zpu (HA:Hid zgf) [hg:Glo w] {k:Int}:
  Calls Tryz.prog 7 #[str a,str b,.int .i64 k] w (fun e w'=>e = .returned (.bool true)/\Below w.heap.size w w'):=by
 by_cases h:¬ fewP a 30 ∨ ¬ fewP b 30 ∨ k < 1 ∨ 10 < k
 ·exact zpa HA h
 ·rw [not_or, not_or, not_or, Classical.not_not, Classical.not_not] at h
  obtain ⟨h1,h2,h3,h4⟩:=h
  obtain ⟨n,rfl⟩:∃ n:Nat,k=(n:Int):=⟨k.toNat,by omega⟩
  by_cases hneg:(readQ a).num < 0
  ·exact zoP HA h1 h2 (by omega) (by omega) hneg
  ·exact zoO HA h1 h2 (by omega) (by omega) (by omega)
end
end
section
open Go.ChangeShapes Go.WideShapes Go.ChangeAt Go.ChangeMaps
theorem zpi (os:Os) (started:os.Started) (H:Type) (enc:TypeId × Value -> H):
  ReturnsInHanded {} Tryz.checked os 7 .any (fun w args=>(Rows.numberSquaresSpec.pre enc Tryz.prog Tryz.f7 [] false w args/\laidMetH Tryz.prog laid3 w)/\sizedMet enc Tryz.prog Tryz.f7 (OpenSpec.ofChange Rows.numberSquaresSpec) false w args)
   (Rows.numberSquaresSpec.post enc Tryz.prog Tryz.f7 false true false false):=by
 refine returnsInHanded_of_change_and (C:=Tryz.checked) (X:=fun w _=>laidMetH Tryz.prog laid3 w) (fun _ _ _ hh h=>h.of_heap hh) own started (by kernel_rfl) Tryz.func7
  (ChangeSpec.witness_shaped (enc:=enc) (C:=Tryz.checked) (os:=os) (X:=fun w _=>laidMetH Tryz.prog laid3 w) false (World.doorLaid Tryz.prog 400 os) #[.string ⟨#[]⟩,.string ⟨#[]⟩,.int .i64 0] 8 rfl (World.shaped_of_RefB (by kernel_rfl) (by kernel_rfl)) (by kernel_rfl) (by kernel_rfl) (by kernel_rfl) (znu os _)) ?_
 intro W base args ds gs before hval0 hW _ _ hL _
 have hval:∀ (j:Nat) t v,Tryz.f7.params[j]?=some t -> args[j]?=some v -> Value.okWide Tryz.prog W .any base t v:=hval0
 have hW':=hW
 obtain ⟨p,q,hA0,hV,rfl,hfz,hnd⟩:=hW
 have hA:DataW.TrodAll enc Tryz.prog W 0 (fun _=>true) true Tryz.f7.params.toList args.toList ds p:=hA0
 rw [Tryz.params7] at hA hval
 obtain ⟨v0,v1,v2,d0,d1,d2,p0,p1,p2,rfl,rfl,rfl,h0,h1,h2⟩:=trodAll_three hA
 obtain ⟨rfl,rfl⟩:=trodVars_none hV
 obtain ⟨a0,rfl,rfl,rfl,w0⟩:=open_string Tryz.underlying22 (hval 0 22 v0 rfl rfl) h0
 obtain ⟨a1,rfl,rfl,rfl,w1⟩:=open_string Tryz.underlying22 (hval 1 22 v1 rfl rfl) h1
 obtain ⟨a2,rfl,rfl,rfl,w2⟩:=open_int Tryz.underlying3 (hval 2 3 v2 rfl rfl) h2
 have hg:Glo W:=zjb hL
 clear hA0 hval0
 simp only [List.append_nil] at hW'
 refine (zpu (a:=a0.data.toList) (b:=a1.data.toList) (k:=a2) (w:=W) (Hid.mk zpy)).mono fun e W' ⟨he,hb⟩=>?_
 subst he
 exact ⟨_,rfl,_,_,_,[],[],[],hW',trodAll_mk1 (shut_bool Tryz.underlying4 _),trodAll_mk3 (shut_string Tryz.underlying22 w0) (shut_string Tryz.underlying22 w1) (shut_int Tryz.underlying3 w2),rfl,hb.frame _,fun h=>by cases h⟩
end
end Go.Proofs.YtciabaaclnplnaaGreatDoor
