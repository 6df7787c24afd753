import Derived.Test.YtombhkpniddceaaGreatDoorQ46
set_option maxHeartbeats 3200000
set_option maxRecDepth 100000
set_option linter.all false
namespace Go.Proofs.YtombhkpniddceaaGreatDoor
open Go.RowKit
section
open Go.Sort Go.Lib
theorem zoz:∀ (n:Nat),1 <= n -> (Lib.decDigits n)[0]? ≠ some 48:=by
 intro n
 induction n using Nat.strongRecOn with
 | _ n ih=>
  intro h1 hc
  by_cases h:n < 10
  ·rw [zbP h] at hc
   have h2:UInt8.ofNat (48+n)=48:=by simpa using hc
   have h3:=congrArg UInt8.toNat h2
   rw [UInt8.toNat_ofNat'] at h3
   have h4:(48:UInt8).toNat=48:=rfl
   omega
  ·rw [zdj (by omega)] at hc
   have hl:0 < (Lib.decDigits (n / 10)).length:=by rw [Lib.decDigits_length]; exact Lib.nDigits_pos _
   rw [List.getElem?_append_left hl] at hc
   exact ih (n / 10) (by omega) (by omega) hc
theorem zoq (n:Nat):decL (Lib.decDigits n)=true:=by
 rw [ziu (zn5 n) (fun h=>by
  rcases Nat.eq_zero_or_pos n with h0 | h0
  ·subst h0
   rw [zbP (by omega)] at h
   exact absurd h.2 (by simp)
  ·exact zoz n h0 h.1)]
 rw [zkd]
 intro i c hc
 exact zdi n c (zk hc)
theorem zor {b t:Bool} {N D:List UInt8} (hN:Digs N) (hN0:N ≠ []):rNeg (fracL b N D t)=b/\rNum (fracL b N D t)=N/\rCut (fracL b N D t)=t/\(t=true -> rDen (fracL b N D t)=D):=by
 have h1:rNeg (fracL b N D t)=b:=by
  cases b
  ·cases N with
   | nil=>exact absurd rfl hN0
   | cons c l=>
    have hc:=(hN c (by simp)).1
    unfold rNeg Lib.hasPrefix fracL
    cases h:([45]:List UInt8).isPrefixOf ((if false=true then 45 :: c :: l else c :: l) ++ if t=true then 47 :: D else [])
    ·rfl
    ·exfalso
     simp at h
     rw [<- h] at hc
     exact absurd hc (by decide)
  ·unfold rNeg Lib.hasPrefix fracL
   simp
 have h2:Lib.trimPrefix (fracL b N D t) [45]=N ++ (if t then 47 :: D else []):=by
  unfold Lib.trimPrefix
  rw [show Lib.hasPrefix (fracL b N D t) [45]=b from h1]
  cases b
  ·rfl
  ·rfl
 have h3:zas (N ++ (if t then 47 :: D else []))=N.length:=by rw [zfg (zjj hN),zeu,Nat.add_zero]
 refine ⟨h1,?_,?_,?_⟩
 ·unfold rNum
  rw [h2,ziw,h3]
  split
  ·simp
  ·cases t
   ·simp
   ·rename_i h; simp at h
 ·unfold rCut
  rw [h2,ziw,h3]
  cases t
  ·simp
  ·simp
 ·intro ht
  subst ht
  unfold rDen
  rw [h2,ziw,h3]
  simp
theorem zoj {q:Rat} (hf:Fits q):readE (zad q)=0/\readQ (zad q)=q:=by
 obtain ⟨p1,p2,p3,p4⟩:=zor (b:=decide (q.num < 0)) (t:=decide (q.den ≠ 1)) (D:=Lib.decDigits q.den) (zdi q.num.natAbs) (zn5 q.num.natAbs)
 rw [<- zbk] at p1 p2 p3 p4
 have hD:decide (q.den ≠ 1)=true -> Lib.decDigits q.den ≠ [48]/\Lib.decDigits q.den ≠ [49]:=fun h=>by
  constructor
  ·exact fun e=>q.den_nz (zir.1 e)
  ·intro e
   have:=zcC q.den
   rw [e] at this
   have h1:q.den ≠ 1:=by simpa using h
   exact h1 (this.symm.trans (by decide +kernel))
 have hN:¬ (decide (q.num < 0)=true/\Lib.decDigits q.num.natAbs=[48]):=fun h=>by
  have h1:q.num < 0:=by simpa using h.1
  have:=zir.1 h.2
  omega
 have hE:rE (rNum (zad q)) (rDen (zad q)) (rCut (zad q)) (rNeg (zad q))=0:=by
  rw [p1,p2,p3]
  unfold rE
  rw [if_neg (fun h=>h.elim (fun h=>by rw [zoq] at h; cases h) hN)]
  cases ht:decide (q.den ≠ 1)
  ·rw [if_neg (fun h => by cases h.1)]
   have hd:rDen (zad q)=[]:=by
    have:=(znA (Lib.trimPrefix (zad q) [45]) 47).2.2 (by rw [ht] at p3; exact p3)
    exact this
   rw [hd,if_neg (by have:=hf.1; simp; omega),if_neg (fun h=>by cases h.1)]
  ·obtain ⟨d1, d2⟩ := hD ht
   rw [p4 ht,if_neg (fun h=>h.2.elim (fun h=>by rw [zoq] at h; cases h) (fun h=>h.elim d1 d2)),if_neg (by have:=hf.1; have:=hf.2; omega),if_neg (fun h=>by
    have:=h.2
    rw [zcC,zcC] at this
    have:=q.reduced
    unfold Nat.Coprime at this
    omega)]
 refine ⟨hE,?_⟩
 show rQ (rNum (zad q)) (rDen (zad q)) (rCut (zad q)) (rNeg (zad q))=q
 unfold rQ
 rw [if_pos hE,p1,p2,p3,zcC]
 have hs:sgn (decide (q.num < 0)) q.num.natAbs=q.num:=zcj _
 rw [hs]
 cases ht:decide (q.den ≠ 1)
 ·have h1 : q.den = 1 := by simpa using ht
  rw [if_neg (by decide)]
  exact (zdM h1).symm
 ·rw [if_pos rfl, p4 ht, zcC]
  exact Rat.num_divInt_den q
end
def fewP (l:List UInt8) (d:Nat):Prop:=l.length <= 2 * d+2/\readE l=0/\(Lib.decDigits (readQ l).num.natAbs).length <= d/\(Lib.decDigits (readQ l).den).length <= d
instance (l:List UInt8) (d:Nat):Decidable (fewP l d):=by unfold fewP; infer_instance
theorem zoB {l:List UInt8} {d:Nat} {w:World} (hd:d <= 1000):Calls Tryz.prog 134 #[str l,.int .i64 (d:Int)] w (PRet w (.bool (decide (fewP l d)))):=by
 have m1:IntKind.i64.wrap (2 * (d:Int))=2 * (d:Int):=by rw [zx]; omega
 have m2:IntKind.i64.wrap (2 * (d:Int)+2)=2 * (d:Int)+2:=by rw [zx]; omega
 by_cases h1:l.length <= 2 * d+2
 ·have i1 : decide ((l.length : Int) <= 2 * (d : Int) + 2) = true := by simp; omega
  have i2:(l.length:Int) <= 2 * (d:Int)+2:=by omega
  have HCK:Hid (∀ w,Calls _ _ _ w _):=zc (fun w=>zkL (l:=l) (w:=w) (by omega))
  by_cases hE:readE l=0
  ·have hc := zf8 hE
   obtain ⟨q,hq⟩:∃ q,readQ l=q:=⟨_,rfl⟩
   have dq:Sz q 600:=by rw [<- hq]; infer_instance
   have HN:Hid (∀ w,Calls _ _ _ w _):=zc (fun w=>zlv (q:=q) (a:=600) (w:=w) (by decide))
   have HA:Hid (∀ w,Calls _ _ _ w _):=zc (fun w=>zmA (q:=(q.num:Rat)) (w:=w))
   have HD:Hid (∀ w,Calls _ _ _ w _):=zc (fun w=>zn4 (q:=q) (a:=600) (w:=w) (by decide))
   rw [znL] at HA
   rw [zfp] at HD
   rw [hE] at HCK
   rw [hq] at hc
   rw [hc] at HN HD
   obtain ⟨A,hA⟩:∃ A,Lib.decDigits q.num.natAbs=A:=⟨_,rfl⟩
   obtain ⟨D,hD⟩:∃ D,Lib.decDigits q.den=D:=⟨_,rfl⟩
   obtain ⟨M,hM⟩:∃ M,zad (q.num:Rat)=M:=⟨_,rfl⟩
   rw [hA] at HA
   rw [hD] at HD
   rw [hM] at HN HA
   have hiff:fewP l d ↔ (A.length <= d/\D.length <= d):=by
    unfold fewP
    rw [hq,hA,hD]
    exact ⟨fun h=>h.2.2,fun h=>⟨h1,hE,h⟩⟩
   have HV:Hid (decide (fewP l d)=(decide (A.length <= d) && decide (D.length <= d))):=zc (by
    rw [<- Bool.decide_and]
    exact decide_eq_decide.2 hiff)
   have j1:decide ((A.length:Int) <= (d:Int))=decide (A.length <= d):=decide_eq_decide.2 (by omega)
   have j2:decide ((D.length:Int) <= (d:Int))=decide (D.length <= d):=decide_eq_decide.2 (by omega)
   have HJ:=zc (show _/\_ from ⟨j1,j2⟩)
   clear h1 hE hc hq hA hD hM dq j1 j2 hiff
   by_cases z1:A.length <= d
   ·have e1 : decide ((A.length : Int) <= (d : Int)) = true := by simp; omega
    have e1':decide (A.length <= d)=true:=by simpa using z1
    have HZ:=zc e1'
    clear z1
    go_enter Tryz.func134,Tryz.ntmps134
    go_wp2_with fail
    refine zf (HCK.out _) ?_
    rintro e w1 ⟨rfl,hx1⟩
    go_wp2_with fail
    refine zf (HN.out _) ?_
    rintro e w2 ⟨rfl,hx2⟩
    go_wp2_with fail
    refine zf (HA.out _) ?_
    rintro e w3 ⟨rfl,hx3⟩
    go_wp2_with fail
    refine zf (HD.out _) ?_
    rintro e w4 ⟨rfl,hx4⟩
    go_wp2_with fail
    go_ret
    exact ⟨by rw [HV.out,HZ.out,<- HJ.out.2] <;> simp,zaa⟩
   ·have e1 : decide ((A.length : Int) <= (d : Int)) = false := by simp; omega
    have e1':decide (A.length <= d)=false:=by simpa using z1
    have HZ:=zc e1'
    clear z1
    go_enter Tryz.func134,Tryz.ntmps134
    go_wp2_with fail
    refine zf (HCK.out _) ?_
    rintro e w1 ⟨rfl,hx1⟩
    go_wp2_with fail
    refine zf (HN.out _) ?_
    rintro e w2 ⟨rfl,hx2⟩
    go_wp2_with fail
    refine zf (HA.out _) ?_
    rintro e w3 ⟨rfl,hx3⟩
    go_wp2_with fail
    go_ret
    exact ⟨by rw [HV.out,HZ.out]; rfl,zaa⟩
  ·obtain ⟨E, hEE⟩ : ∃ E, readE l = E := ⟨_, rfl⟩
   have HV:Hid (decide (fewP l d)=false):=zc (decide_eq_false (fun h=>hE h.2.1))
   rw [hEE] at HCK hE
   have k1:(E == 0)=false:=by simpa using hE
   clear h1 hE hEE
   go_enter Tryz.func134,Tryz.ntmps134
   go_wp2_with fail
   refine zf (HCK.out _) ?_
   rintro e w1 ⟨rfl,hx1⟩
   go_wp2_with fail
   go_ret
   exact ⟨by rw [HV.out]; rfl,zaa⟩
 ·have i1 : decide ((l.length : Int) <= 2 * (d : Int) + 2) = false := by simp; omega
  have HV:Hid (decide (fewP l d)=false):=zc (decide_eq_false (fun h=>h1 h.1))
  clear h1
  go_enter Tryz.func134,Tryz.ntmps134
  go_wp2_with fail
  go_ret
  exact ⟨by rw [HV.out]; rfl,zaa⟩
def Mem (x:Rat) (a:Rat × Rat):Prop:=a.1 <= x/\x <= a.2
section
open Go.Sort Go.Lib
section
variable {w:World} {al ah bl bh:List UInt8}
end
def fewS (a b:List UInt8) (d:Nat):Bool:=decide (fewP a d) && decide (fewP b d) && decide (spE a b=0)
section
variable {w:World} {a b:List UInt8} {d:Nat}
end
section
variable {w:World} {x:Rat × Rat} {k m:Nat}
end
end
section
open Go.Sort Go.Lib
class ChkOk (a b:List UInt8):Prop where
 out:∀ w:World,Calls Tryz.prog 19 #[spv a b] w (PRet w (.int .i64 0))
class HasOk (a b v:List UInt8):Prop where
 out:∀ w:World,Calls Tryz.prog 32 #[spv a b,str v] w (PRet w (.bool true))
end
section
open Go.Sort Go.Lib
section
variable {al ah bl bh:List UInt8}
theorem Sz.up {q:Rat} {a b:Nat} (h:Sz q a) (hab:a <= b):Sz q b:=⟨zo h.num hab,zo h.den hab⟩
structure EnOk (Z:Rat × Rat) (v:Rat):Prop where
 chk:ChkOk (zad Z.1) (zad Z.2)
 has:HasOk (zad Z.1) (zad Z.2) (zad v)
section
variable (hA:fewS al ah 6=true) (hB:fewS bl bh 6=true) {x y:Rat} (hx:Mem x (rdI al ah)) (hy:Mem y (rdI bl bh)) (dx:Sz x 8) (dy:Sz y 8)
include hA hB hx hy dx dy
end
end
end
end Go.Proofs.YtombhkpniddceaaGreatDoor
