import Derived.Test.YtombhkpniddceaaGreatDoorM17
import Derived.Test.YtombhkpniddceaaGreatDoorM18
import Derived.Test.YtombhkpniddceaaGreatDoorM16
import Derived.Test.YtombhkpniddceaaGreatDoorM15
set_option maxHeartbeats 3200000
set_option linter.all false
namespace Go.Proofs.YtombhkpniddceaaGreatDoor
open Go.RowKit
section
variable {v1 v2:Value} {q r:Rat} {a b:Nat} {w:World} [h1:RatIs w v1 q] [h2:RatIs w v2 r] [d1:Sz q a] [d2:Sz r b]
theorem zcV (hl:a+b <= 2 ^ 35):Calls Tryz.prog 185 #[v1,v2] w (RRet w (q - r)):=by
 obtain ⟨s1,rfl,_,n1,k1,HE1⟩:=h1.form
 obtain ⟨s2,rfl,_,n2,k2,HE2⟩:=h2.form
 have HQ:=zc (Rat.sub_eq_add_neg q r)
 go_enter Tryz.func185,Tryz.ntmps185
 go_wp2_with fail
 (refine Code.nameW ?_; intro W hW; go_region_held3 (fun w'=>ButO W [w.heap.size+1+1] w') (exact zab) ((first | (go_at_call 115; refine zf (zfm) ?_; rintro e w1 ⟨q1,rfl,_,_⟩) | (go_at_call 121; refine zf (zfo (q:=q) (r := -r) hl) ?_; rintro e w1 ⟨q1,rfl,_,_⟩))))
 all_goals go_wp2_with fail
 all_goals simp [bodyPost,results,Tryz.results185,go_sem]
 all_goals exact ⟨q1,rfl,by rw [HQ.out]; infer_instance,zaa⟩
theorem zh6 {r:Rat} (hr:r.num ≠ 0):(r⁻¹).num=sgn (decide (r.num < 0)) r.den/\(r⁻¹).den=r.num.natAbs:=by
 have h:=zjP (q:=r⁻¹) (n:=sgn (decide (r.num < 0)) r.den) (d:=r.num.natAbs) (by omega) (by
  rw [Rat.inv_def]
  rcases Int.lt_or_le r.num 0 with h | h
  ·have e : (r.num.natAbs : Int) = -r.num := by omega
   rw [e]; simp only [sgn,h,decide_true,if_true]
   rw [<- Rat.neg_divInt_neg]
  ·have e : (r.num.natAbs : Int) = r.num := by omega
   have:¬ r.num < 0:=by omega
   rw [e]; simp [sgn,this]) (by rw [zaq,Nat.gcd_comm]; exact r.reduced)
 exact h
theorem zlm (hl:a+b <= 2 ^ 36):Calls Tryz.prog 186 #[v1,v2] w (RRet w (q / r)):=by
 obtain ⟨s1,rfl,_,n1,k1,HE1⟩:=h1.form
 obtain ⟨s2,rfl,i2,n2,k2,HE2⟩:=h2.form
 by_cases hz:r.num=0
 ·have hr : r = 0 := Rat.num_eq_zero.1 hz
  have HQ:=zc (show q / r=0 by rw [hr,Rat.div_def,Rat.inv_zero,Rat.mul_zero])
  have HS:=zc (show sgnI r.num=0 by rw [hz]; rfl)
  clear hz hr
  go_enter Tryz.func186,Tryz.ntmps186
  go_wp2_with fail
  refine zf (zaT (q:=r)) ?_
  rw [HS.out]
  rintro e w1 ⟨rfl,_⟩
  go_wp2_with fail
  simp [bodyPost,results,Tryz.results186,go_sem]
  exact ⟨⟨⟨false,⟨none,0,0⟩⟩,⟨none,0,0⟩⟩,rfl,by rw [HQ.out]; exact zbf,zaa⟩
 ·have m2 : NatIs w s2.n.m.v r.num.natAbs := i2.nat
  have HQ:=zc (Rat.div_def q r)
  obtain ⟨p1,p2⟩:=zh6 hz
  have d3:Sz r⁻¹ b:=⟨by rw [p1,zaq]; exact d2.den,by rw [p2]; exact d2.num⟩
  have HP1:=zc p1; have HP2:=zc p2
  have hs:(sgnI r.num == 0)=false:=ziO hz
  have HS2:=zc (show decide (sgnI r.num < 0)=decide (r.num < 0) by unfold sgnI; split <;> simp_all <;> split <;> omega)
  clear p1 p2 hz
  go_enter Tryz.func186,Tryz.ntmps186
  go_wp2_with fail
  refine zf (zaT (q:=r)) ?_
  rintro e w1 ⟨rfl,_⟩
  go_wp2_with fail
  (refine Code.nameW ?_; intro W hW; go_region_held3 (fun w' => ButO W [w.heap.size + 1 + 1] w') (exact zab) ((first
   | (go_at_call 71; refine zf (zaT) ?_; rintro e w1 ⟨rfl,_⟩)
   | (go_at_call 167; refine zf (zak) ?_; rintro e w1 ⟨s5,rfl,i5,_⟩); (have n5:=IntIs.nat i5; rw [Int.natAbs_natCast] at n5)
   | (go_at_call 160; refine zf zbq ?_; rw [HS2.out,<- HP1.out]; rintro e w1 ⟨b5,rfl,_,_⟩)
   | (go_at_call 122; refine zf (@zcW _ _ q r⁻¹ a b _ _ (RatIs.made (s:=s5.m) (t:=s2.n.m) za za (Or.inl HP2.out.symm)) _ _ hl) ?_; rintro e w1 ⟨q1,rfl,_,_⟩))))
  all_goals go_wp2_with fail
  all_goals simp [bodyPost,results,Tryz.results186,go_sem]
  all_goals exact ⟨q1,rfl,by rw [HQ.out]; infer_instance,zaa⟩
end
section
open Go.Sort Go.Lib
def zq (e:Int) (q:Rat):Rat:=if e=0 then q else 0
theorem za0 (l:List UInt8):Sz (readQ l) 600:=by
 unfold readQ
 generalize rNum l=N
 generalize rDen l=D
 generalize rCut l=t
 generalize rNeg l=g
 by_cases hE:rE N D t g=0
 ·have hF:Form N D t g/\(N.length <= 600/\D.length <= 600)/\(t=true -> Nat.gcd (zac N) (zac D) <= 1):=by
   unfold rE at hE
   split at hE
   ·cases hE
   ·rename_i h1
    split at hE
    ·cases hE
    ·rename_i h2
     split at hE
     ·cases hE
     ·rename_i h3
      split at hE
      ·cases hE
      ·rename_i h4
       refine ⟨⟨⟨?_,?_⟩,?_⟩,by omega,fun ht=>?_⟩
       ·cases h : decL N
        ·exact absurd (Or.inl h) h1
        ·rfl
       ·cases hg : g
        ·exact Or.inl (by simp)
        ·refine Or.inr ?_
         cases h:(N == [48])
         ·rfl
         ·exact absurd (Or.inr ⟨hg,by simpa using h⟩) h1
       ·cases ht : t
        ·exact Or.inl (by simp)
        ·refine Or.inr ⟨?_, ?_, ?_⟩
         ·cases h : decL D
          ·exact absurd ⟨ht,Or.inl h⟩ h2
          ·rfl
         ·cases h : (D == [48])
          ·rfl
          ·exact absurd ⟨ht,Or.inr (Or.inl (by simpa using h))⟩ h2
         ·cases h : (D == [49])
          ·rfl
          ·exact absurd ⟨ht,Or.inr (Or.inr (by simpa using h))⟩ h2
       ·rcases Nat.lt_or_ge 1 (Nat.gcd (zac N) (zac D)) with h | h
        ·exact absurd ⟨ht,h⟩ h4
        ·exact h
  obtain ⟨hF,hL,hG⟩:=hF
  have hn:wl (zac N) <= 600:=zmi (zbB hF.1.1) hL.1
  by_cases ht:t=true
  ·obtain ⟨_, h1, h2⟩ := zg6 hF hL ht (hG ht)
   refine ⟨by rw [h1,zaq]; exact hn,?_⟩
   rw [h2]
   rcases hF.2 with h | h
   ·exact absurd ht h
   ·exact zmi (zbB h.1) hL.2
  ·rw [zln hE ht]
   refine ⟨by rw [Rat.num_intCast,zaq]; exact hn,?_⟩
   rw [Rat.den_intCast,za1]; omega
 ·rw [zfq hE]
  exact ⟨by rw [show (0:Rat).num=0 from rfl]; simp [zbE],by rw [show (0:Rat).den=1 from rfl,za1]; omega⟩
theorem zq_sz {e:Int} {q:Rat} {k:Nat} (h:Sz q k) (hk:1 <= k):Sz (zq e q) k:=by
 unfold zq
 split
 ·exact h
 ·exact ⟨by rw [show (0:Rat).num=0 from rfl]; simp [zbE],by rw [show (0:Rat).den=1 from rfl,za1]; exact hk⟩
instance readQ_szi {l:List UInt8}:Sz (readQ l) 600:=za0 l
instance zq_szi {e:Int} {l:List UInt8}:Sz (zq e (readQ l)) 600:=zq_sz (za0 l) (by omega)
theorem zkT {w:World} {v:Value} {e:Int} {q:Rat} (h:RatIs w v q) (he:e=0):RatIs w v (zq e q):=by
 unfold zq; rw [if_pos he]; exact h
theorem ne_b {E:Int} (h:(E != 0)=true):E ≠ 0:=by simpa using h
theorem eq_b {E:Int} (h:(E != 0)=false):E=0:=by simpa using h
def zr:RV:=⟨⟨false,⟨none,0,0⟩⟩,⟨none,0,0⟩⟩
def zbx (a b:List UInt8):Int:=or2 (readE a) (readE b)
section
variable {w:World} {a b l:List UInt8}
theorem zmp (hl:l.length < 2 ^ 40):Calls Tryz.prog 104 #[str l] w (PRet w (.int .i64 (readE l))):=by
 have HL:=zc hl
 clear hl
 go_enter Tryz.func104,Tryz.ntmps104
 go_wp2_with ((go_at_call 70; refine zf (zdJ HL.out) ?_; rintro e w1 ⟨q1,rfl,_,_⟩))
 go_ret
 exact ⟨rfl,zaa⟩
theorem zdK (ha:a.length < 2 ^ 40) (hb:b.length < 2 ^ 40):
  Calls Tryz.prog 183 #[str a,str b] w (fun e w'=>∃ s t:RV,e = .returned (.tuple #[s.v,t.v,.int .i64 (zbx a b)])/\RatIs w' s.v (zq (zbx a b) (readQ a))/\RatIs w' t.v (zq (zbx a b) (readQ b))/\Nxt w w'):=by
 have HA:=zc ha; have HB:=zc hb
 obtain ⟨E,hE⟩:∃ E,zbx a b=E:=⟨_,rfl⟩
 have HE:=zc hE
 rw [hE]
 clear ha hb hE
 go_enter Tryz.func183,Tryz.ntmps183
 go_wp2_with fail
 refine zf (zdJ HA.out) ?_
 rintro e w1 ⟨q1,rfl,_,_⟩
 go_wp2_with fail
 refine zf (zdJ HB.out) ?_
 rintro e w1 ⟨q2,rfl,_,_⟩
 go_wp2_with fail
 refine zf zaH ?_
 rw [show or2 (readE a) (readE b)=E from HE.out]
 rintro e w3 ⟨rfl,_⟩
 go_wp2_with fail
 ·have h0 : E ≠ 0 := ne_b (by assumption)
  simp [bodyPost,results,Tryz.results183,go_sem]
  exact ⟨zr,zr,(by repeat' (first | apply And.intro | rfl)),by rw [zq,if_neg h0]; exact zbf,by rw [zq,if_neg h0]; exact zbf,zaa⟩
 ·have h0 : E = 0 := eq_b (by assumption)
  subst h0
  have b1:Blk w3 w.heap.size 100 #[.bool false,.slice none 0 0,.slice none 0 0]:=za
  have b2:Blk w3 (w.heap.size+1) 100 #[.bool false,.slice none 0 0,.slice none 0 0]:=za
  have r1:RatIs w3 q1.v (readQ a):=za
  have r2:RatIs w3 q2.v (readQ b):=za
  (refine Code.nameW ?_; intro W hW; go_region_held3 (fun w'=>ButO W [w.heap.size,w.heap.size+1] w') (exact zab) (fail))
  all_goals go_wp2_with fail
  all_goals simp [bodyPost,results,Tryz.results183,go_sem]
  all_goals exact ⟨q1,q2,(by repeat' (first | apply And.intro | rfl)),zkT za rfl,zkT za rfl,zaa⟩
end
end
def SAt (w:World) (A:Option Addr) (ws:List (List UInt8)):Prop:=∀ i x,ws[i]?=some x -> ∃ ad,A=some ad/\w.cell? (ad.add i)=some (str x)
def MAt (w:World) (A:Option Addr) (rows:List (List (List UInt8))):Prop:=∀ i r,rows[i]?=some r -> ∃ ad B k c,A=some ad/\w.cell? (ad.add i)=some (.slice B k c)/\r.length=k/\SAt w B r
theorem SAt.drew {w:World} {A:Option Addr} {ws:List (List UInt8)} (h:SAt w A ws) (n:Nat):SAt (w.drewN n) A ws:=fun i x hx=>h i x hx
theorem zfj (A1 A2:Option Addr) (c1 c2 n1 n2:Nat) (l1 l2:List (List UInt8)) (w:World) (h1:SAt w A1 l1) (h2:SAt w A2 l2) (e1:l1.length=n1) (e2:l2.length=n2) (hn:n1 < 2 ^ 40) (hm:n2 < 2 ^ 40):
  Calls Tryz.prog 54 #[.slice A1 n1 c1,.slice A2 n2 c2] w fun e w'=>e = .returned (.bool (decide (l1=l2)))/\Drew w w':=by
 have H1:=zc h1; have H2:=zc h2; have E1:=zc e1; have E2:=zc e2; have HN:=zc hn
 by_cases hne:n1=n2
 ·subst hne
  clear h1 h2 e1 e2 hn hm
  go_enter Tryz.func54,Tryz.ntmps54
  go_wp2_with fail
  go_loopw [5] (fun s5 wr=>∃ i:Nat,s5 = .int .i64 (i:Int)/\i <= n1/\(∀ j,j < i -> l1[j]?=l2[j]?)/\Drew w wr) (fun s5 _=>n1 - (intOf s5).toNat)
  case atStart=>exact ⟨0,rfl,Nat.zero_le _,fun _ h=>absurd h (by omega),Drew.refl _⟩
  case round=>
   obtain ⟨i,rfl,hi,hok,hd⟩:=hrel
   have HO:=zc hok
   clear hok
   by_cases hin:i < n1
   ·have hlt : decide ((i : Int) < (n1 : Int)) = true := by simp; omega
    have hlt':(i:Int) < (n1:Int):=by omega
    have hadd:IntKind.i64.wrap ((i:Int)+1)=((i+1:Nat):Int):=by have:=HN.out; rw [zx]; omega
    obtain ⟨x,hx⟩:∃ x,l1[i]?=some x:=⟨l1[i]'(by rw [E1.out]; exact hin),zg _⟩
    obtain ⟨y,hy⟩:∃ y,l2[i]?=some y:=⟨l2[i]'(by rw [E2.out]; exact hin),zg _⟩
    obtain ⟨ad1,rfl,k1⟩:=H1.out i x hx
    obtain ⟨ad2,rfl,k2⟩:=H2.out i y hy
    have k3:wr.cell? (ad1.add i)=some (str x):=by obtain ⟨_,rfl⟩:=hd; exact k1
    have k4:wr.cell? (ad2.add i)=some (str y):=by obtain ⟨_,rfl⟩:=hd; exact k2
    have HD:=zc hd; have HX:=zc hx; have HY:=zc hy
    clear hd hx hy k1 k2
    by_cases hxy:x=y
    ·subst hxy
     go_wp2_with fail
     go_quiet (fail)
     go_wp2_with fail
     go_roundw
     case rel=>exact ⟨i+1,rfl,hin,fun j hj=>by
      rcases Nat.lt_or_ge j i with h | h
      ·exact HO.out j h
      ·obtain rfl : j = i := by omega
       rw [HX.out,HY.out],HD.out.more _⟩
     case measure=>simp [intOf]; omega
    ·have hnx : (x == y) = false := by simpa using hxy
     go_wp2_with fail
     go_quiet (fail)
     go_wp2_with fail
     go_ret
     exact ⟨by rw [show decide (l1=l2)=false by simp; rintro rfl; rw [HX.out] at HY; exact hxy (zl HY.out)]; rfl,HD.out.more _⟩
   ·have hlt : decide ((i : Int) < (n1 : Int)) = false := by simp; omega
    have HD:=zc hd
    clear hd
    go_wp2_with fail
    go_ret
    exact ⟨by rw [show decide (l1=l2)=true by simp; exact List.ext_getElem? (fun j=>by
     rcases Nat.lt_or_ge j i with h | h
     ·exact HO.out j h
     ·rw [List.getElem?_eq_none (by rw [E1.out]; omega),List.getElem?_eq_none (by rw [E2.out]; omega)])]; rfl,HD.out⟩
 ·have hb : ((n1 : Int) != (n2 : Int)) = true := by simp; omega
  have hl:decide (l1=l2)=false:=by simp; rintro rfl; omega
  have HLL:=zc hl
  clear h1 h2 e1 e2 hn hm hl
  go_enter Tryz.func54,Tryz.ntmps54
  go_wp2_with fail
  go_ret
  exact ⟨by rw [HLL.out]; rfl,Drew.refl _⟩
theorem zgs (A1 A2:Option Addr) (c1 c2 n1 n2:Nat) (l1 l2:List (List (List UInt8))) (w:World) (h1:MAt w A1 l1) (h2:MAt w A2 l2) (e1:l1.length=n1) (e2:l2.length=n2) (hn:n1 < 2 ^ 40) (hm:n2 < 2 ^ 40)
  (hs1:∀ r ∈ l1,r.length < 2 ^ 40) (hs2:∀ r ∈ l2,r.length < 2 ^ 40):
  Calls Tryz.prog 55 #[.slice A1 n1 c1,.slice A2 n2 c2] w fun e w'=>e = .returned (.bool (decide (l1=l2)))/\Drew w w':=by
 have H1:=zc h1; have H2:=zc h2; have E1:=zc e1; have E2:=zc e2; have HN:=zc hn; have HS1:=zc hs1; have HS2:=zc hs2
 by_cases hne:n1=n2
 ·subst hne
  clear h1 h2 e1 e2 hn hm hs1 hs2
  go_enter Tryz.func55,Tryz.ntmps55
  go_wp2_with fail
  go_loopw [5] (fun s5 wr=>∃ i:Nat,s5 = .int .i64 (i:Int)/\i <= n1/\(∀ j,j < i -> l1[j]?=l2[j]?)/\Drew w wr) (fun s5 _=>n1 - (intOf s5).toNat)
  case atStart=>exact ⟨0,rfl,Nat.zero_le _,fun _ h=>absurd h (by omega),Drew.refl _⟩
  case round=>
   obtain ⟨i,rfl,hi,hok,hd⟩:=hrel
   have HO:=zc hok
   clear hok
   by_cases hin:i < n1
   ·have hlt : decide ((i : Int) < (n1 : Int)) = true := by simp; omega
    have hlt':(i:Int) < (n1:Int):=by omega
    have hadd:IntKind.i64.wrap ((i:Int)+1)=((i+1:Nat):Int):=by have:=HN.out; rw [zx]; omega
    obtain ⟨x,hx⟩:∃ x,l1[i]?=some x:=⟨l1[i]'(by rw [E1.out]; exact hin),zg _⟩
    obtain ⟨y,hy⟩:∃ y,l2[i]?=some y:=⟨l2[i]'(by rw [E2.out]; exact hin),zg _⟩
    obtain ⟨ad1,B1,m1,d1,rfl,k1,ex,sx⟩:=H1.out i x hx
    obtain ⟨ad2,B2,m2,d2,rfl,k2,ey,sy⟩:=H2.out i y hy
    have hm1:m1 < 2 ^ 40:=by rw [<- ex]; exact HS1.out x (zk hx)
    have hm2:m2 < 2 ^ 40:=by rw [<- ey]; exact HS2.out y (zk hy)
    have k3:wr.cell? (ad1.add i)=some (.slice B1 m1 d1):=by obtain ⟨_,rfl⟩:=hd; exact k1
    have k4:wr.cell? (ad2.add i)=some (.slice B2 m2 d2):=by obtain ⟨_,rfl⟩:=hd; exact k2
    have sx':SAt wr B1 x:=by obtain ⟨_,rfl⟩:=hd; exact sx
    have sy':SAt wr B2 y:=by obtain ⟨_,rfl⟩:=hd; exact sy
    have HR:=zc (fun n=>zf (R':=fun e w''=>e = .returned (.bool (decide (x=y)))/\∃ m,w''=(wr.drewN n).drewN m) (zfj B1 B2 d1 d2 m1 m2 x y (wr.drewN n) (sx'.drew n) (sy'.drew n) ex ey hm1 hm2) (fun _ _ h=>⟨h.1,h.2.ex⟩))
    have HD:=zc hd; have HX:=zc hx; have HY:=zc hy
    clear hd hx hy k1 k2 sx sy sx' sy' ex ey hm1 hm2
    by_cases hxy:x=y
    ·have hdx : decide (x = y) = true := by simpa using hxy
     rw [hdx] at HR
     go_wp2_with fail
     go_quiet (refine Calls.quiet_of (HR.out _))
     go_wp2_with fail
     go_roundw
     case rel=>exact ⟨i+1,rfl,hin,fun j hj=>by
      rcases Nat.lt_or_ge j i with h | h
      ·exact HO.out j h
      ·obtain rfl : j = i := by omega
       rw [HX.out,HY.out,hxy],HD.out.more _⟩
     case measure=>simp [intOf]; omega
    ·have hdx : decide (x = y) = false := by simpa using hxy
     rw [hdx] at HR
     go_wp2_with fail
     go_quiet (refine Calls.quiet_of (HR.out _))
     go_wp2_with fail
     go_ret
     exact ⟨by rw [show decide (l1=l2)=false by simp; rintro rfl; rw [HX.out] at HY; exact hxy (zl HY.out)]; rfl,HD.out.more _⟩
   ·have hlt : decide ((i : Int) < (n1 : Int)) = false := by simp; omega
    have HD:=zc hd
    clear hd
    go_wp2_with fail
    go_ret
    exact ⟨by rw [show decide (l1=l2)=true by simp; exact List.ext_getElem? (fun j=>by
     rcases Nat.lt_or_ge j i with h | h
     ·exact HO.out j h
     ·rw [List.getElem?_eq_none (by rw [E1.out]; omega),List.getElem?_eq_none (by rw [E2.out]; omega)])]; rfl,HD.out⟩
 ·have hb : ((n1 : Int) != (n2 : Int)) = true := by simp; omega
  have hl:decide (l1=l2)=false:=by simp; rintro rfl; omega
  have HLL:=zc hl
  clear h1 h2 e1 e2 hn hm hl hs1 hs2
  go_enter Tryz.func55,Tryz.ntmps55
  go_wp2_with fail
  go_ret
  exact ⟨by rw [HLL.out]; rfl,Drew.refl _⟩
end Go.Proofs.YtombhkpniddceaaGreatDoor
