import Derived.Test.YtombhkpniddceaaGreatDoorM46
set_option maxHeartbeats 3200000
set_option maxRecDepth 100000
set_option linter.all false
namespace Go.Proofs.YtombhkpniddceaaGreatDoor
open Go.RowKit
section
open Go.Sort Go.Lib
theorem zoz:∀ (n:Nat),1 <= n -> (Lib.decDigits n)[0]? ≠ some 48:=by
 intro n
 induction n using Nat.strongRecOn with
 | _ n ih=>
  intro h1 hc
  by_cases h:n < 10
  ·rw [zbP h] at hc
   have h2:UInt8.ofNat (48+n)=48:=by simpa using hc
   have h3:=congrArg UInt8.toNat h2
   rw [UInt8.toNat_ofNat'] at h3
   have h4:(48:UInt8).toNat=48:=rfl
   omega
  ·rw [zdj (by omega)] at hc
   have hl:0 < (Lib.decDigits (n / 10)).length:=by rw [Lib.decDigits_length]; exact Lib.nDigits_pos _
   rw [List.getElem?_append_left hl] at hc
   exact ih (n / 10) (by omega) (by omega) hc
theorem zoq (n:Nat):decL (Lib.decDigits n)=true:=by
 rw [ziu (zn5 n) (fun h=>by
  rcases Nat.eq_zero_or_pos n with h0 | h0
  ·subst h0
   rw [zbP (by omega)] at h
   exact absurd h.2 (by simp)
  ·exact zoz n h0 h.1)]
 rw [zkd]
 intro i c hc
 exact zdi n c (zk hc)
theorem zor {b t:Bool} {N D:List UInt8} (hN:Digs N) (hN0:N ≠ []):rNeg (fracL b N D t)=b/\rNum (fracL b N D t)=N/\rCut (fracL b N D t)=t/\(t=true -> rDen (fracL b N D t)=D):=by
 have h1:rNeg (fracL b N D t)=b:=by
  cases b
  ·cases N with
   | nil=>exact absurd rfl hN0
   | cons c l=>
    have hc:=(hN c (by simp)).1
    unfold rNeg Lib.hasPrefix fracL
    cases h:([45]:List UInt8).isPrefixOf ((if false=true then 45 :: c :: l else c :: l) ++ if t=true then 47 :: D else [])
    ·rfl
    ·exfalso
     simp at h
     rw [<- h] at hc
     exact absurd hc (by decide)
  ·unfold rNeg Lib.hasPrefix fracL
   simp
 have h2:Lib.trimPrefix (fracL b N D t) [45]=N ++ (if t then 47 :: D else []):=by
  unfold Lib.trimPrefix
  rw [show Lib.hasPrefix (fracL b N D t) [45]=b from h1]
  cases b
  ·rfl
  ·rfl
 have h3:zas (N ++ (if t then 47 :: D else []))=N.length:=by rw [zfg (zjj hN),zeu,Nat.add_zero]
 refine ⟨h1,?_,?_,?_⟩
 ·unfold rNum
  rw [h2,ziw,h3]
  split
  ·simp
  ·cases t
   ·simp
   ·rename_i h; simp at h
 ·unfold rCut
  rw [h2,ziw,h3]
  cases t
  ·simp
  ·simp
 ·intro ht
  subst ht
  unfold rDen
  rw [h2,ziw,h3]
  simp
theorem zoj {q:Rat} (hf:Fits q):readE (zad q)=0/\readQ (zad q)=q:=by
 obtain ⟨p1,p2,p3,p4⟩:=zor (b:=decide (q.num < 0)) (t:=decide (q.den ≠ 1)) (D:=Lib.decDigits q.den) (zdi q.num.natAbs) (zn5 q.num.natAbs)
 rw [<- zbk] at p1 p2 p3 p4
 have hD:decide (q.den ≠ 1)=true -> Lib.decDigits q.den ≠ [48]/\Lib.decDigits q.den ≠ [49]:=fun h=>by
  constructor
  ·exact fun e=>q.den_nz (zir.1 e)
  ·intro e
   have:=zcC q.den
   rw [e] at this
   have h1:q.den ≠ 1:=by simpa using h
   exact h1 (this.symm.trans (by decide +kernel))
 have hN:¬ (decide (q.num < 0)=true/\Lib.decDigits q.num.natAbs=[48]):=fun h=>by
  have h1:q.num < 0:=by simpa using h.1
  have:=zir.1 h.2
  omega
 have hE:rE (rNum (zad q)) (rDen (zad q)) (rCut (zad q)) (rNeg (zad q))=0:=by
  rw [p1,p2,p3]
  unfold rE
  rw [if_neg (fun h=>h.elim (fun h=>by rw [zoq] at h; cases h) hN)]
  cases ht:decide (q.den ≠ 1)
  ·rw [if_neg (fun h => by cases h.1)]
   have hd:rDen (zad q)=[]:=by
    have:=(znA (Lib.trimPrefix (zad q) [45]) 47).2.2 (by rw [ht] at p3; exact p3)
    exact this
   rw [hd,if_neg (by have:=hf.1; simp; omega),if_neg (fun h=>by cases h.1)]
  ·obtain ⟨d1, d2⟩ := hD ht
   rw [p4 ht,if_neg (fun h=>h.2.elim (fun h=>by rw [zoq] at h; cases h) (fun h=>h.elim d1 d2)),if_neg (by have:=hf.1; have:=hf.2; omega),if_neg (fun h=>by
    have:=h.2
    rw [zcC,zcC] at this
    have:=q.reduced
    unfold Nat.Coprime at this
    omega)]
 refine ⟨hE,?_⟩
 show rQ (rNum (zad q)) (rDen (zad q)) (rCut (zad q)) (rNeg (zad q))=q
 unfold rQ
 rw [if_pos hE,p1,p2,p3,zcC]
 have hs:sgn (decide (q.num < 0)) q.num.natAbs=q.num:=zcj _
 rw [hs]
 cases ht:decide (q.den ≠ 1)
 ·have h1 : q.den = 1 := by simpa using ht
  rw [if_neg (by decide)]
  exact (zdM h1).symm
 ·rw [if_pos rfl, p4 ht, zcC]
  exact Rat.num_divInt_den q
end
def fewP (l:List UInt8) (d:Nat):Prop:=l.length <= 2 * d+2/\readE l=0/\(Lib.decDigits (readQ l).num.natAbs).length <= d/\(Lib.decDigits (readQ l).den).length <= d
instance (l:List UInt8) (d:Nat):Decidable (fewP l d):=by unfold fewP; infer_instance
def Mem (x:Rat) (a:Rat × Rat):Prop:=a.1 <= x/\x <= a.2
section
open Go.Sort Go.Lib
theorem zqd:OpIv 91 addI where
 call h:=zlp h
 run args w:=by kernel_rfl
 size h1 h2 h3 h4:=⟨za,za⟩
theorem zpO:OpIv 92 subI where
 call h:=zpQ h
 run args w:=by kernel_rfl
 size h1 h2 h3 h4:=⟨za,za⟩
section
variable {w:World} {al ah bl bh:List UInt8}
theorem zqV [hg:Glo w] (h1:al.length < 2 ^ 40) (h2:ah.length < 2 ^ 40) (h3:bl.length < 2 ^ 40) (h4:bh.length < 2 ^ 40):
  Calls Tryz.prog 22 #[spv al ah,spv bl bh] w (PRet w (onS addI al ah bl bh)):=by
 have HO:=zc (show ∀ (w:World) [Glo w],Calls _ _ _ w _ from fun w _=>zlu (w:=w) zqd h1 h2 h3 h4)
 obtain ⟨L,H,E,hV⟩:=zm1 addI al ah bl bh
 rw [hV] at HO ⊢
 clear h1 h2 h3 h4 hV
 go_enter Tryz.func22,Tryz.ntmps22
 go_wp2_with fail
 refine zf (HO.out _) ?_
 rintro e w1 ⟨rfl,_⟩
 go_wp2_with fail
 simp [bodyPost,results,Tryz.results22,go_sem]
 exact ⟨rfl,zaa⟩
theorem zqQ [hg:Glo w] (h1:al.length < 2 ^ 40) (h2:ah.length < 2 ^ 40) (h3:bl.length < 2 ^ 40) (h4:bh.length < 2 ^ 40):
  Calls Tryz.prog 23 #[spv al ah,spv bl bh] w (PRet w (onS subI al ah bl bh)):=by
 have HO:=zc (show ∀ (w:World) [Glo w],Calls _ _ _ w _ from fun w _=>zlu (w:=w) zpO h1 h2 h3 h4)
 obtain ⟨L,H,E,hV⟩:=zm1 subI al ah bl bh
 rw [hV] at HO ⊢
 clear h1 h2 h3 h4 hV
 go_enter Tryz.func23,Tryz.ntmps23
 go_wp2_with fail
 refine zf (HO.out _) ?_
 rintro e w1 ⟨rfl,_⟩
 go_wp2_with fail
 simp [bodyPost,results,Tryz.results23,go_sem]
 exact ⟨rfl,zaa⟩
end
def fewS (a b:List UInt8) (d:Nat):Bool:=decide (fewP a d) && decide (fewP b d) && decide (spE a b=0)
section
variable {w:World} {a b:List UInt8} {d:Nat}
end
section
variable {w:World} {x:Rat × Rat} {k m:Nat}
end
end
section
open Go.Sort Go.Lib
theorem zoc {q:Rat} {k:Nat} (h:Sz q k) (h1:1 <= k) (h2:k <= 30):Fits q:=⟨zo (zis h.num h1) (by omega),zo (zis h.den h1) (by omega)⟩
class ChkOk (a b:List UInt8):Prop where
 out:∀ w:World,Calls Tryz.prog 19 #[spv a b] w (PRet w (.int .i64 0))
class HasOk (a b v:List UInt8):Prop where
 out:∀ w:World,Calls Tryz.prog 32 #[spv a b,str v] w (PRet w (.bool true))
end
section
open Go.Sort Go.Lib
section
variable {al ah bl bh:List UInt8}
theorem Sz.up {q:Rat} {a b:Nat} (h:Sz q a) (hab:a <= b):Sz q b:=⟨zo h.num hab,zo h.den hab⟩
theorem zpA (h:spE al ah=0):spanR (rdI al ah)=spv al ah:=by
 obtain ⟨r1,r2,_⟩:=rd_ok h
 show Value.agg #[str (zad (rdI al ah).1),str (zad (rdI al ah).2)]=_
 rw [r1,r2]
structure EnOk (Z:Rat × Rat) (v:Rat):Prop where
 chk:ChkOk (zad Z.1) (zad Z.2)
 has:HasOk (zad Z.1) (zad Z.2) (zad v)
section
variable (hA:fewS al ah 6=true) (hB:fewS bl bh 6=true) {x y:Rat} (hx:Mem x (rdI al ah)) (hy:Mem y (rdI bl bh)) (dx:Sz x 8) (dy:Sz y 8)
include hA hB hx hy dx dy
end
end
end
end Go.Proofs.YtombhkpniddceaaGreatDoor
