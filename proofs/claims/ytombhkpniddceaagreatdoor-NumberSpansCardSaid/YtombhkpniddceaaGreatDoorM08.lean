import Derived.Test.YtombhkpniddceaaGreatDoorM07
set_option maxHeartbeats 1600000
set_option linter.all false
namespace Go.Proofs.YtombhkpniddceaaGreatDoor
open Go.RowKit
section
variable {v1 v2:Value} {x y:Int} {a b:Nat} {w:World} [h1:IntIs w v1 x] [h2:IntIs w v2 y] [d1:Wd x a] [d2:Wd y b]
theorem zaA (h:a+b <= 2 ^ 37):Calls Tryz.prog 162 #[v1,v2] w (IRet w (Nat.gcd x.natAbs y.natAbs:Nat)):=by
 obtain ⟨s1,rfl,_,k1⟩:=h1.form
 obtain ⟨s2,rfl,_,k2⟩:=h2.form
 go_enter Tryz.func162,Tryz.ntmps162
 go_wp2_with (first | (go_at_call 229; refine zf (zlA h) ?_; rintro e w1 ⟨s1,rfl,_,_⟩) | (go_at_call 160; refine zf (zbq) ?_; rintro e w1 ⟨b1,rfl,_,_⟩))
 simp [bodyPost,results,Tryz.results162,go_sem]
 exact ⟨⟨b1,s1⟩,rfl,(za:IntIs _ _ (sgn false (Nat.gcd x.natAbs y.natAbs))),zaa⟩
theorem zb3:Calls Tryz.prog 250 #[v1] w (PRet w (.bool (decide (x.natAbs % 2=1)))):=by
 obtain ⟨s,rfl,HB,k1⟩:=h1.form
 by_cases hz:x=0
 ·have hk : s.m.k = 0 := (NatIs.len_zero k1).2 (by simp [hz])
  obtain ⟨b,A,k,c⟩:=s
  simp only at hk
  subst hz hk
  clear HB
  go_enter Tryz.func250,Tryz.ntmps250
  go_wp2_with fail
  go_ret
  exact ⟨rfl,zaa⟩
 ·have hm0 : x.natAbs ≠ 0 := by omega
  generalize x.natAbs=m at *
  have hk:=k1.len'
  obtain ⟨A',c',e,i1,i2,i3⟩:=k1
  rw [zbb hm0] at i3
  obtain ⟨ad,y,rfl,hadl,hcx,hyl,HX⟩:=i3.get (k:=0) (by simp)
  obtain rfl:m % B64=y:=by have:=HX.out; simpa using this
  have hA:s.m.A=some ad:=by injection e
  have hk0:0 < s.m.k:=by rw [hk]; exact ze4 hm0
  obtain ⟨b,A,k,c⟩:=s
  simp only at hA hk0
  subst hA
  have hcx2:∀ o,(w.alloc o).cell? ad=some (.int .u64 ((m % B64:Nat):Int)):=by
   intro o
   rw [World.cell?_alloc_lt _ _ _ hadl]; exact hcx
  have hp:decide ((0:Int) < (k:Int))=true:=by simp; omega
  have hp':(0:Int) < (k:Int):=by omega
  have he:((m % B64:Nat):Int) % 2=((m % 2:Nat):Int):=by unfold B64; omega
  have hq:((((m % B64:Nat):Int) % 2) == 1)=decide (m % 2=1):=by
   rw [he]
   rcases Nat.mod_two_eq_zero_or_one m with h | h <;> rw [h] <;> rfl
  have HQ:=zc hq
  clear i1 i2 i3 hcx HX HB hk he hq hm0 hyl hk0 e
  generalize m % B64=y at *
  go_enter Tryz.func250,Tryz.ntmps250
  go_wp2_with fail
  go_ret
  exact ⟨by rw [<- HQ.out]; rfl,zaa⟩
end
theorem power_c {x:Int} {n k:Nat} {w:World} (hx0 : -(2 ^ 63) <= x) (hx1:x < 2 ^ 63) (hn:n < 2 ^ 62) (hk:k+1 <= MaxW) (HW:Hid (∀ i,i <= n -> wl (x ^ i).natAbs <= k)):
  Calls Tryz.prog 171 #[.int .i64 x,.int .i64 (n:Int)] w (IRet w (x ^ n)):=by
 have HX0:=zc hx0; have HX1:=zc hx1; have HNL:=zc hn
 have d1:Wd x 1:=⟨zaf (by unfold B64; omega)⟩
 clear hx0 hx1 hn
 go_enter Tryz.func171,Tryz.ntmps171
 go_wp2_with (first | (go_at_call 141; refine zf (zaD (n:=1) (by omega) (by omega)) ?_; rintro e w1 ⟨s1,rfl,_,_⟩))
 go_loopw [8] (fun s8 wr=>∃ i:Nat,s8 = .int .i64 (i:Int)/\i <= n/\∃ s:IV,Blk wr w1.heap.size 98 #[.bool s.b,s.m.v]/\IntIs wr s.v (x ^ i)/\Nxt w1 wr) (fun s8 _=>n - (intOf s8).toNat)
 case atStart=>exact ⟨0,rfl,Nat.zero_le _,s1,za,by rw [Int.pow_zero]; infer_instance,zaa⟩
 case round=>
  obtain ⟨i,rfl,hi,s,_,_,_⟩:=hrel
  have HP:=zc (Int.pow_succ x i).symm
  have e1:Wd (x ^ i) k:=⟨HW.out i hi⟩
  by_cases hin:i < n
  ·have hadd : IntKind.i64.wrap ((i : Int) + 1) = ((i + 1 : Nat) : Int) := by have := HNL.out; rw [zx]; omega
   go_wp2_with fail
   go_region_with ((first | (go_at_call 141; refine zf (zaD HX0.out HX1.out) ?_; rintro e w1 ⟨s1,rfl,_,_⟩) | (go_at_call 168; refine zf (zah hk) ?_; rintro e w1 ⟨s1,rfl,_,_⟩)))
   all_goals
    go_wp2_with fail
    go_roundw
    case rel=>exact ⟨i+1,rfl,hin,_,za,by rw [<- HP.out]; infer_instance,zaa⟩
    case measure=>simp [intOf]; omega
  ·obtain rfl : i = n := by omega
   go_wp2_with fail
   simp [bodyPost,results,Tryz.results171,go_sem]
   exact ⟨s,rfl,za,zaa⟩
structure RV where
 n:IV
 d:NV
@[reducible,go_sem] def RV.v (s:RV):Value := .agg #[.bool s.n.b,.slice s.n.m.A s.n.m.k s.n.m.c,.slice s.d.A s.d.k s.d.c]
class RatIs (w:World) (v:Value) (q:outParam Rat):Prop where
 ex:∃ (s:RV) (e:Nat),v=s.v/\IntIs w s.n.v q.num/\NatIs w s.d.v e/\(e=q.den ∨ (e=0/\q.den=1))
theorem RatIs.below {w w':World} {v:Value} {q:Rat} (h:RatIs w v q) (hb:Below w.heap.size w w'):RatIs w' v q:=by
 obtain ⟨s,e,hv,h1,h2,h3⟩:=h
 exact ⟨s,e,hv,h1.below hb,h2.below hb,h3⟩
section
variable {w w' W X a:World} {g i:Nat} {t:TypeId} {vs:Array Value} {x v:Value} {o:Obj}
theorem RatIs.setOwn {q:Rat} (h:RatIs w v q) (hb:Blk w g t vs) (hi:zaj vs i):RatIs (w.setCell ⟨g,i,none⟩ x) v q:=by
 obtain ⟨s,e,hv,h1,h2,h3⟩:=h
 exact ⟨s,e,hv,h1.setOwn hb hi,h2.setOwn hb hi,h3⟩
instance RatIs.was_ {q:Rat} [h:Was W X] [k:RatIs X v q]:RatIs W v q:=by rw [h.out]; exact k
instance RatIs.nxt_ {q:Rat} [h:Nxt a w'] [k:RatIs a v q]:RatIs w' v q:=k.below h.out
instance RatIs.set_ {q:Rat} [k:RatIs X v q] [hb:Blk X g t vs] [hi:zaj vs i]:RatIs (X.setCell ⟨g,i,none⟩ x) v q:=k.setOwn hb hi
instance RatIs.drew_ {q:Rat} [k:RatIs X v q]:RatIs X.drew v q:=k.below (Below.refl _ _).drew
instance RatIs.drewN_ {q:Rat} {m0:Nat} [k:RatIs X v q]:RatIs (X.drewN m0) v q:=k.below (Below.drewN _ _ _)
instance RatIs.alloc_ {q:Rat} [k:RatIs X v q]:RatIs (X.alloc o) v q:=k.below ((Below.refl _ _).alloc (zv _) o)
end
theorem RatIs.form {w:World} {v:Value} {q:Rat} (h:RatIs w v q):∃ s:RV,v=s.v/\IntIs w s.n.v q.num/\∃ e,NatIs w s.d.v e/\Hid (e=q.den ∨ (e=0/\q.den=1)):=by
 obtain ⟨s,e,hv,h1,h2,h3⟩:=h
 exact ⟨s,hv,h1,e,h2,h3⟩
theorem RatIs.made {w:World} {b:Bool} {s t:NV} {e:Nat} {q:Rat} (h1:IntIs w (.agg #[.bool b,.slice s.A s.k s.c]) q.num) (h2:NatIs w t.v e) (h3:e=q.den ∨ (e=0/\q.den=1)):RatIs w (.agg #[.bool b,.slice s.A s.k s.c,.slice t.A t.k t.c]) q:=
 ⟨⟨⟨b,s⟩,t⟩,e,rfl,h1,h2,h3⟩
def RRet (w:World) (q:Rat) (e:Ending) (w':World):Prop:=∃ s:RV,e = .returned s.v/\RatIs w' s.v q/\Nxt w w'
class Sz (q:Rat) (k:outParam Nat):Prop where
 num:wl q.num.natAbs <= k
 den:wl q.den <= k
instance {q:Rat} {k:Nat} [h:Sz q k]:Wd q.num k:=⟨h.num⟩
instance {q:Rat} {k:Nat} [h:Sz q k]:WdN q.den k:=⟨h.den⟩
section
variable {v1 v2:Value} {q r:Rat} {x:Int} {a b:Nat} {w:World}
theorem zbr [h1:IntIs w v1 x]:Calls Tryz.prog 143 #[v1] w (RRet w (x:Rat)):=by
 obtain ⟨s,rfl,_,_⟩:=h1.form
 go_enter Tryz.func143,Tryz.ntmps143
 go_wp2_with fail
 simp [bodyPost,results,Tryz.results143,go_sem]
 exact ⟨⟨s,⟨none,0,0⟩⟩,rfl,RatIs.made (by rw [Rat.num_intCast]; infer_instance) (NatIs.zero _) (Or.inr ⟨rfl,Rat.den_intCast x⟩),zaa⟩
theorem zby [h1:RatIs w v1 q]:Calls Tryz.prog 165 #[v1] w (IRet w q.num):=by
 obtain ⟨s,rfl,_,e,_,HE⟩:=h1.form
 go_enter Tryz.func165,Tryz.ntmps165
 go_wp2_with fail
 simp [bodyPost,results,Tryz.results165,go_sem]
 exact ⟨s.n,rfl,za,zaa⟩
theorem zak [h1:RatIs w v1 q]:Calls Tryz.prog 167 #[v1] w (IRet w (q.den:Int)):=by
 obtain ⟨⟨n,⟨D,j,d⟩⟩,rfl,_,e,hd,HE⟩:=h1.form
 have hlz:=NatIs.len_zero hd
 rcases HE.out with he | ⟨he,hq⟩
 ·have hk:((j:Int) == 0)=false:=by
   have:=q.den_nz
   simp; intro h; exact this (by rw [<- he]; exact hlz.1 h)
  subst he
  clear hlz HE
  go_enter Tryz.func167,Tryz.ntmps167
  go_wp2_with (first | (go_at_call 160; refine zf (zbq) ?_; rintro e w1 ⟨b1,rfl,_,_⟩))
  simp [bodyPost,results,Tryz.results167,go_sem]
  exact ⟨⟨b1,⟨D,j,d⟩⟩,rfl,(za:IntIs _ _ (sgn false q.den)),zaa⟩
 ·have hj : j = 0 := hlz.2 he
  subst hj
  have HQ:=zc hq
  clear hlz he hq HE
  go_enter Tryz.func167,Tryz.ntmps167
  go_wp2_with (first | (go_at_call 141; refine zf (zaD (n:=1) (by omega) (by omega)) ?_; rintro e w1 ⟨s1,rfl,_,_⟩))
  simp [bodyPost,results,Tryz.results167,go_sem]
  exact ⟨s1,rfl,by rw [HQ.out]; infer_instance,zaa⟩
theorem den_wd {e k:Nat} (HE:Hid (e=q.den ∨ (e=0/\q.den=1))) (h:wl q.den <= k):WdN e k:=⟨by
 rcases HE.out with h' | ⟨h',_⟩
 ·rw [h']; exact h
 ·rw [h',zbE]; exact Nat.zero_le _⟩
theorem zaM [h1:RatIs w v1 q] [d1:Sz q a] (h:a <= MaxW):Calls Tryz.prog 187 #[v1] w (PRet w (.bool (decide (q.den=1)))):=by
 obtain ⟨s,rfl,_,n,hd,HE⟩:=h1.form
 have hq:decide (((bl n:Nat):Int) <= 1)=decide (q.den=1):=by
  have h0:=q.den_nz
  rcases HE.out with h | ⟨h,hd⟩
  ·subst h
   by_cases h1:q.den=1
   ·rw [h1]; decide
   ·have := zju h0
    have h2:q.den / 2 ≠ 0:=by omega
    have:=(zco h2).1
    simp [h1]; omega
  ·rw [h,zjt,hd]; rfl
 have _i:=den_wd HE d1.den
 go_enter Tryz.func187,Tryz.ntmps187
 go_wp2_with (first | (go_at_call 230; refine zf (zb0 (a:=a) h rfl) ?_; rintro e w1 ⟨rfl,rfl⟩))
 go_ret
 exact ⟨by first | rfl | rw [hq],zaa⟩
theorem zaT [h1:RatIs w v1 q]:Calls Tryz.prog 71 #[v1] w (PRet w (.int .i64 (sgnI q.num))):=by
 obtain ⟨s,rfl,_,e,_,HE⟩:=h1.form
 go_enter Tryz.func71,Tryz.ntmps71
 go_wp2_with (first | (go_at_call 164; refine zf (zbd) ?_; rintro e w1 ⟨rfl,_⟩))
 go_ret
 exact ⟨rfl,zaa⟩
theorem zfm [h1:RatIs w v1 q]:Calls Tryz.prog 115 #[v1] w (RRet w (-q)):=by
 obtain ⟨s,rfl,_,e,_,HE⟩:=h1.form
 go_enter Tryz.func115,Tryz.ntmps115
 go_wp2_with fail
 (refine Code.nameW ?_; intro W hW; go_region_held3 (fun w'=>ButO W [w.heap.size+1] w') (exact zab) ((first | (go_at_call 197; refine zf (zia) ?_; rintro e w1 ⟨s1,rfl,_,_⟩))))
 all_goals go_wp2_with fail
 all_goals simp [bodyPost,results,Tryz.results115,go_sem]
 all_goals exact ⟨⟨s1,s.d⟩,rfl,RatIs.made (by rw [Rat.neg_num]; infer_instance) za (by rw [Rat.neg_den]; exact HE.out),zaa⟩
end
theorem zjP {q:Rat} {n:Int} {d:Nat} (hd:d ≠ 0) (h:q=Rat.divInt n d) (hc:Nat.gcd n.natAbs d=1):q.num=n/\q.den=d:=by
 have hd':(d:Int) ≠ 0:=by omega
 subst h
 constructor
 ·rw [Rat.num_divInt]
  have:Int.gcd d n=1:=by rw [Int.gcd_comm]; exact hc
  rw [this]
  have:(d:Int).sign=1:=Int.sign_eq_one_of_pos (by omega)
  rw [this]; simp
 ·rw [Rat.den_divInt, if_neg hd']
  have:Int.gcd d n=1:=by rw [Int.gcd_comm]; exact hc
  rw [this]; simp
theorem zeE {n d k:Int} (hk:k ≠ 0):Rat.divInt (n * k) (d * k)=Rat.divInt n d:=Rat.divInt_mul_right hk
theorem zbl {x:Int} {g:Nat} (h:(g:Int) ∣ x):(x / (g:Int)).natAbs=x.natAbs / g:=by
 obtain ⟨k,rfl⟩:=h
 rcases Nat.eq_zero_or_pos g with rfl | hp
 ·simp
 ·rw [Int.mul_ediv_cancel_left _ (by omega),Int.natAbs_mul,Int.natAbs_natCast,Nat.mul_div_cancel_left _ hp]
theorem zhV {q r:Rat} {l t:Nat} (hl:Nat.gcd q.num.natAbs r.den=l) (ht:Nat.gcd r.num.natAbs q.den=t):
  q.num / (l:Int) * (r.num / (t:Int))=(q * r).num/\q.den / t * (r.den / l)=(q * r).den:=by
 have hl0:l ≠ 0:=by rintro rfl; exact r.den_nz (Nat.eq_zero_of_gcd_eq_zero_right hl)
 have ht0:t ≠ 0:=by rintro rfl; exact q.den_nz (Nat.eq_zero_of_gcd_eq_zero_right ht)
 have d1:l ∣ q.num.natAbs:=by rw [<- hl]; exact Nat.gcd_dvd_left _ _
 have d2:l ∣ r.den:=by rw [<- hl]; exact Nat.gcd_dvd_right _ _
 have d3:t ∣ r.num.natAbs:=by rw [<- ht]; exact Nat.gcd_dvd_left _ _
 have d4:t ∣ q.den:=by rw [<- ht]; exact Nat.gcd_dvd_right _ _
 have c1:Nat.gcd (q.num.natAbs / l) (r.den / l)=1:=by
  rw [Nat.gcd_div d1 d2,hl,Nat.div_self (Nat.pos_of_ne_zero hl0)]
 have c2:Nat.gcd (r.num.natAbs / t) (q.den / t)=1:=by
  rw [Nat.gcd_div d3 d4,ht,Nat.div_self (Nat.pos_of_ne_zero ht0)]
 have c3:Nat.gcd (q.num.natAbs / l) (q.den / t)=1:=Nat.Coprime.coprime_dvd_left (Nat.div_dvd_of_dvd d1) (Nat.Coprime.coprime_dvd_right (Nat.div_dvd_of_dvd d4) q.reduced)
 have c4:Nat.gcd (r.num.natAbs / t) (r.den / l)=1:=Nat.Coprime.coprime_dvd_left (Nat.div_dvd_of_dvd d3) (Nat.Coprime.coprime_dvd_right (Nat.div_dvd_of_dvd d2) r.reduced)
 obtain ⟨a,ha⟩:(l:Int) ∣ q.num:=Int.ofNat_dvd_left.2 d1
 obtain ⟨b,hb⟩:(t:Int) ∣ r.num:=Int.ofNat_dvd_left.2 d3
 obtain ⟨d,hd⟩:=d2
 obtain ⟨c,hc⟩:=d4
 have e1:q.num / (l:Int)=a:=by rw [ha,Int.mul_ediv_cancel_left _ (by omega)]
 have e2:r.num / (t:Int)=b:=by rw [hb,Int.mul_ediv_cancel_left _ (by omega)]
 have e3:q.den / t=c:=by rw [hc,Nat.mul_div_cancel_left _ (Nat.pos_of_ne_zero ht0)]
 have e4:r.den / l=d:=by rw [hd,Nat.mul_div_cancel_left _ (Nat.pos_of_ne_zero hl0)]
 have e5:q.num.natAbs / l=a.natAbs:=by rw [<- e1,zbl (Int.ofNat_dvd_left.2 d1)]
 have e6:r.num.natAbs / t=b.natAbs:=by rw [<- e2,zbl (Int.ofNat_dvd_left.2 d3)]
 rw [e1,e2,e3,e4]
 rw [e3,e5] at c3; rw [e4,e6] at c4; rw [e4,e5] at c1; rw [e3,e6] at c2
 have hc0:c ≠ 0:=by rintro rfl; exact q.den_nz (by rw [hc,Nat.mul_zero])
 have hd0:d ≠ 0:=by rintro rfl; exact r.den_nz (by rw [hd,Nat.mul_zero])
 have:=zjP (q:=q * r) (n:=a * b) (d:=c * d) (Nat.mul_ne_zero hc0 hd0) ?_ ?_
 ·exact ⟨this.1.symm,this.2.symm⟩
 ·rw [Rat.mul_def', <- Rat.divInt_ofNat, ha, hb, hc, hd]
  have hk:((l:Int) * (t:Int)) ≠ 0:=Int.mul_ne_zero (by omega) (by omega)
  rw [show (l:Int) * a * ((t:Int) * b)=a * b * ((l:Int) * t) by grind,show ((t * c * (l * d):Nat):Int)=((c * d:Nat):Int) * ((l:Int) * t) by push_cast; grind,zeE hk]
 ·rw [Int.natAbs_mul]
  exact Nat.Coprime.mul_left (Nat.Coprime.mul_right c3 c1) (Nat.Coprime.mul_right c2 c4)
theorem zmv {q r:Rat} {g t:Nat} {N:Int} (hg:Nat.gcd q.den r.den=g) (hN:q.num * ((r.den / g:Nat):Int)+r.num * ((q.den / g:Nat):Int)=N) (ht:Nat.gcd N.natAbs g=t):
  N / (t:Int)=(q+r).num/\q.den / g * (r.den / t)=(q+r).den:=by
 have hg0:g ≠ 0:=by rintro rfl; exact q.den_nz (Nat.eq_zero_of_gcd_eq_zero_left hg)
 have ht0:t ≠ 0:=by rintro rfl; exact hg0 (Nat.eq_zero_of_gcd_eq_zero_right ht)
 have d1:g ∣ q.den:=by rw [<- hg]; exact Nat.gcd_dvd_left _ _
 have d2:g ∣ r.den:=by rw [<- hg]; exact Nat.gcd_dvd_right _ _
 have d3:t ∣ N.natAbs:=by rw [<- ht]; exact Nat.gcd_dvd_left _ _
 have d4:t ∣ g:=by rw [<- ht]; exact Nat.gcd_dvd_right _ _
 have c0:Nat.gcd (q.den / g) (r.den / g)=1:=by rw [Nat.gcd_div d1 d2,hg,Nat.div_self (Nat.pos_of_ne_zero hg0)]
 obtain ⟨l,hl⟩:=d1
 obtain ⟨s,hs⟩:=d2
 have e1:q.den / g=l:=by rw [hl,Nat.mul_div_cancel_left _ (Nat.pos_of_ne_zero hg0)]
 have e2:r.den / g=s:=by rw [hs,Nat.mul_div_cancel_left _ (Nat.pos_of_ne_zero hg0)]
 rw [e1,e2] at c0 hN
 rw [e1]
 obtain ⟨k,hk⟩:=d4
 obtain ⟨M,hM⟩:(t:Int) ∣ N:=Int.ofNat_dvd_left.2 d3
 have e3:N / (t:Int)=M:=by rw [hM,Int.mul_ediv_cancel_left _ (by omega)]
 have e4:r.den / t=k * s:=by rw [hs,hk,Nat.mul_assoc,Nat.mul_div_cancel_left _ (Nat.pos_of_ne_zero ht0)]
 rw [e3,e4]
 have hNa:N.natAbs=t * M.natAbs:=by rw [hM,Int.natAbs_mul,Int.natAbs_natCast]
 have ck:Nat.gcd M.natAbs k=1:=by
  have:Nat.gcd (t * M.natAbs) (t * k)=t:=by rw [<- hNa,<- hk]; exact ht
  rw [Nat.gcd_mul_left] at this
  exact Nat.eq_of_mul_eq_mul_left (Nat.pos_of_ne_zero ht0) (by rw [this,Nat.mul_one])
 have cop:∀ {a b c d:Nat},Nat.gcd a c=1 -> Nat.gcd c d=1 -> Nat.gcd (a * d) c=1:=fun h1 h2=>Nat.Coprime.mul_left h1 (Nat.Coprime.symm h2)
 have cl:Nat.gcd N.natAbs l=1:=by
  have h1:Nat.gcd q.num.natAbs l=1:=Nat.Coprime.coprime_dvd_right ⟨g,by rw [hl,zw]⟩ q.reduced
  have h2:Nat.gcd (q.num * (s:Int)).natAbs l=1:=by rw [Int.natAbs_mul,Int.natAbs_natCast]; exact Nat.Coprime.mul_left h1 (Nat.Coprime.symm c0)
  have h3:Int.gcd (q.num * (s:Int)+r.num * (l:Int)) l=Int.gcd (q.num * (s:Int)) l:=by simp
  rw [<- hN]
  exact h3.trans h2
 have cs:Nat.gcd N.natAbs s=1:=by
  have h1:Nat.gcd r.num.natAbs s=1:=Nat.Coprime.coprime_dvd_right ⟨g,by rw [hs,zw]⟩ r.reduced
  have h2:Nat.gcd (r.num * (l:Int)).natAbs s=1:=by rw [Int.natAbs_mul,Int.natAbs_natCast]; exact Nat.Coprime.mul_left h1 c0
  have h3:Int.gcd (q.num * (s:Int)+r.num * (l:Int)) s=Int.gcd (r.num * (l:Int)) s:=by simp
  rw [<- hN]
  exact h3.trans h2
 have hMN:M.natAbs ∣ N.natAbs:=⟨t,by rw [hNa,zw]⟩
 have hl0:l ≠ 0:=by rintro rfl; exact q.den_nz (by rw [hl,Nat.mul_zero])
 have hs0:s ≠ 0:=by rintro rfl; exact r.den_nz (by rw [hs,Nat.mul_zero])
 have hk0:k ≠ 0:=by rintro rfl; exact hg0 (by rw [hk,Nat.mul_zero])
 have:=zjP (q:=q+r) (n:=M) (d:=l * (k * s)) (Nat.mul_ne_zero hl0 (Nat.mul_ne_zero hk0 hs0)) ?_ ?_
 ·exact ⟨this.1.symm,this.2.symm⟩
 ·rw [Rat.add_def', <- Rat.divInt_ofNat]
  have hkk:((g:Int) * (t:Int)) ≠ 0:=Int.mul_ne_zero (by omega) (by omega)
  have f1:q.num * (r.den:Int)+r.num * (q.den:Int)=M * ((g:Int) * t):=by
   rw [hl,hs]; push_cast
   have:q.num * ((g:Int) * s)+r.num * ((g:Int) * l)=(q.num * s+r.num * l) * g:=by grind
   rw [this,hN,hM]; grind
  have f2:((q.den * r.den:Nat):Int)=((l * (k * s):Nat):Int) * ((g:Int) * t):=by
   rw [hl,hs]; push_cast
   have:(g:Int)=t * k:=by exact_mod_cast hk
   rw [this]; grind
  rw [f1,f2,zeE hkk]
 ·exact Nat.Coprime.mul_right (Nat.Coprime.coprime_dvd_left hMN cl) (Nat.Coprime.mul_right ck (Nat.Coprime.coprime_dvd_left hMN cs))
end Go.Proofs.YtombhkpniddceaaGreatDoor
