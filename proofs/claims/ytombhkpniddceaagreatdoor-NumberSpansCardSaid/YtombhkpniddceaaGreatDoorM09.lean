import Derived.Test.YtombhkpniddceaaGreatDoorM08
set_option maxHeartbeats 6400000
set_option linter.all false
namespace Go.Proofs.YtombhkpniddceaaGreatDoor
open Go.RowKit
theorem zc1 {x y:Int} (hy:y ≠ 0):(Rat.divInt x y).num=sgn (decide (x < 0) != decide (y < 0)) (x.natAbs / Nat.gcd x.natAbs y.natAbs)/\(Rat.divInt x y).den=y.natAbs / Nat.gcd x.natAbs y.natAbs:=by
 have hg:y.gcd x=Nat.gcd x.natAbs y.natAbs:=by rw [Int.gcd_comm]; rfl
 constructor
 ·rw [Rat.num_divInt, hg]
  have hd:Nat.gcd x.natAbs y.natAbs ∣ x.natAbs:=Nat.gcd_dvd_left _ _
  have hx:=zcj x
  have hsy:y.sign=if decide (y < 0)=true then -1 else 1:=by
   rcases Int.lt_trichotomy y 0 with h | h | h
   ·rw [Int.sign_eq_neg_one_of_neg h]; simp [h]
   ·exact absurd h hy
   ·rw [Int.sign_eq_one_of_pos h]; simp; omega
  rw [hsy]
  generalize Nat.gcd x.natAbs y.natAbs=g at *
  generalize hb1:decide (x < 0)=b1 at *
  generalize decide (y < 0)=b2 at *
  generalize hn:x.natAbs=n at *
  rw [<- hx]
  have hdi:(g:Int) ∣ (n:Int):=Int.natCast_dvd_natCast.2 hd
  cases b1 <;> cases b2 <;> simp [sgn,Int.neg_ediv_of_dvd hdi]
 ·rw [Rat.den_divInt,if_neg hy,hg]
theorem IntIs.nat {w:World} {s:IV} {z:Int} (h:IntIs w s.v z):NatIs w s.m.v z.natAbs:=by
 obtain ⟨m,e,hm⟩:=h
 injection e with e
 obtain ⟨e1,e2⟩:s.b=decide (z < 0)/\s.m.v=m:=by simpa using e
 rw [e2]; exact hm
theorem zmF {w:World}:IntIs w (.agg #[.bool false,.slice none 0 0]) 0:=⟨_,rfl,NatIs.zero _⟩
theorem zbf {w:World}:RatIs w (.agg #[.bool false,.slice none 0 0,.slice none 0 0]) 0:=⟨⟨⟨false,⟨none,0,0⟩⟩,⟨none,0,0⟩⟩,0,rfl,zmF,NatIs.zero _,Or.inr ⟨rfl,rfl⟩⟩
theorem zha {s1 s2:IV} {x y:Int} {q:Rat} {g a b:Nat} {w:World} [h1:IntIs w s1.v x] [h2:IntIs w s2.v y] [d1:Wd x a] [d2:Wd y b] (hl:a+b <= 2 ^ 37)
  (HY:Hid (sgnI y ≠ 0)) (hg:Nat.gcd x.natAbs y.natAbs=g) (HG0:Hid (g ≠ 0)) (HGL:WdN g b) (HP1:Hid (q.num=sgn (s1.b != s2.b) (x.natAbs / g))) (HP2:Hid (y.natAbs / g=q.den)):
  Calls Tryz.prog 140 #[s1.v,s2.v] w (RRet w q):=by
 have HGG:=zc hg
 have hs:(sgnI y == 0)=false:=by have:=HY.out; simp; exact this
 have hM:a+a+a+a+b+b+b+b+9 <= MaxW:=by unfold MaxW; omega
 clear hg
 go_enter Tryz.func140,Tryz.ntmps140
 go_wp2_with fail
 refine zf (zbd (x:=y)) ?_
 rintro e w1 ⟨rfl,_⟩
 go_wp2_with fail
 refine zf (zaA (x:=x) (y:=y) hl) ?_
 rw [HGG.out]
 rintro e w2 ⟨s5,rfl,_,_⟩
 go_upto_region 5 with fail
 go_cut [] (fun wx=>∃ (s3 s4:IV),Blk wx w.heap.size 98 #[.bool s3.b,s3.m.v]/\Blk wx (w.heap.size+1) 98 #[.bool s4.b,s4.m.v] /\
  Blk wx (w.heap.size+1+1) 100 #[.bool false,.slice none 0 0,.slice none 0 0]/\Blk wx w2.heap.size 98 #[.bool s5.b,s5.m.v] /\
  IntIs wx s3.v (x.natAbs:Int)/\IntIs wx s4.v (y.natAbs:Int)/\IntIs wx s5.v (g:Int)/\Nxt w wx)
 case first=>
  go_region_with ((first | (go_at_call 213; refine zf (zfI) ?_; rintro e w1 ⟨s1,rfl,_,_⟩)))
  all_goals go_wp2_with fail
  all_goals go_meet
  all_goals exact ⟨_,_,za,za,za,za,za,za,za,zaa⟩
 case rest=>
  obtain ⟨s3,s4,_,_,_,_,i1,i2,_,_⟩:=hcut
  have n1:NatIs wc s3.m.v x.natAbs:=i1.nat
  have n2:NatIs wc s4.m.v y.natAbs:=i2.nat
  have HGI:Hid ((g:Int) ≠ 0):=by have:=HG0.out; show _ ≠ _; omega
  by_cases hg1:g=1
  ·subst hg1
   rw [Nat.div_one] at HP1 HP2
   have hb:bl ((1:Nat):Int).natAbs=1:=bl_eq (k:=0) (by simp) (by simp)
   have HB:=zc hb
   clear hb
   go_wp2_with fail
   refine zf (zaW (x:=((1:Nat):Int)) (a:=b) (by omega)) ?_
   rw [HB.out]
   rintro e w3 ⟨rfl,_⟩
   go_wp2_with fail
   all_goals (refine Code.nameW ?_; intro W hW; go_region_held3 (fun w'=>ButO W [w.heap.size+1+1] w') (exact zab) ((first | (go_at_call 160; refine zf (zbq) ?_; rintro e w1 ⟨b1,rfl,_,_⟩))))
   all_goals go_wp2_with fail
   all_goals simp [bodyPost,results,Tryz.results140,go_sem]
   all_goals exact ⟨⟨⟨b1,s3.m⟩,s4.m⟩,rfl,RatIs.made (by rw [HP1.out]; infer_instance) (za:NatIs _ s4.m.v _) (Or.inl HP2.out),zaa⟩
  ·obtain ⟨t,ht⟩:∃ t,bl (g:Int).natAbs=t+2:=by
    have h0:=HG0.out
    have:=zju h0
    have h2:g / 2 ≠ 0:=by omega
    have:=(zco h2).1
    exact ⟨bl g - 2,by show bl g=_; omega⟩
   have HT:=zc ht
   clear ht hg1
   go_wp2_with fail
   refine zf (zaW (x:=(g:Int)) (a:=b) (by omega)) ?_
   rw [HT.out]
   rintro e w3 ⟨rfl,_⟩
   go_upto_region 7 with fail
   go_cut [] (fun wx=>∃ (s3 s4:IV),Blk wx w.heap.size 98 #[.bool s3.b,s3.m.v]/\Blk wx (w.heap.size+1) 98 #[.bool s4.b,s4.m.v] /\
    Blk wx (w.heap.size+1+1) 100 #[.bool false,.slice none 0 0,.slice none 0 0] /\
    IntIs wx s3.v (flr (x.natAbs:Int) (g:Int))/\IntIs wx s4.v (flr (y.natAbs:Int) (g:Int))/\Nxt w wx)
   case first=>
    go_region_with ((first | (go_at_call 172; refine zf (zfG (by omega) HGI.out) ?_; rintro e w1 ⟨s1,rfl,_,_⟩)))
    all_goals go_wp2_with fail
    all_goals go_meet
    all_goals exact ⟨_,_,za,za,za,za,za,zaa⟩
   case rest=>
    obtain ⟨s3,s4,_,_,_,i1,i2,_⟩:=hcut
    have hgp:(0:Int) < (g:Int):=by have:=HG0.out; omega
    have n1:NatIs wc s3.m.v (x.natAbs / g):=by have:=i1.nat; rw [zeo hgp] at this; exact this
    have n2:NatIs wc s4.m.v (y.natAbs / g):=by have:=i2.nat; rw [zeo hgp] at this; exact this
    clear hgp
    go_wp2_with fail
    all_goals (refine Code.nameW ?_; intro W hW; go_region_held3 (fun w'=>ButO W [w.heap.size+1+1] w') (exact zab) ((first | (go_at_call 160; refine zf (zbq) ?_; rintro e w1 ⟨b1,rfl,_,_⟩))))
    all_goals go_wp2_with fail
    all_goals simp [bodyPost,results,Tryz.results140,go_sem]
    all_goals exact ⟨⟨⟨b1,s3.m⟩,s4.m⟩,rfl,RatIs.made (by rw [HP1.out]; infer_instance) (za:NatIs _ s4.m.v _) (Or.inl HP2.out),zaa⟩
theorem zcg {v1 v2:Value} {x y:Int} {a b:Nat} {w:World} [h1:IntIs w v1 x] [h2:IntIs w v2 y] [d1:Wd x a] [d2:Wd y b] (hl:a+b <= 2 ^ 37):
  Calls Tryz.prog 140 #[v1,v2] w (RRet w (Rat.divInt x y)):=by
 obtain ⟨s1,rfl,HB1,_⟩:=h1.form
 obtain ⟨s2,rfl,HB2,_⟩:=h2.form
 by_cases hy:y=0
 ·subst hy
  rw [Rat.divInt_zero]
  go_enter Tryz.func140,Tryz.ntmps140
  go_wp2_with fail
  refine zf (zbd (x:=0)) ?_
  rw [show sgnI 0=0 from rfl]
  rintro e w1 ⟨rfl,_⟩
  go_wp2_with fail
  simp [bodyPost,results,Tryz.results140,go_sem]
  exact ⟨⟨⟨false,⟨none,0,0⟩⟩,⟨none,0,0⟩⟩,rfl,zbf,zaa⟩
 ·have hy0 : y.natAbs ≠ 0 := by omega
  have hg0:Nat.gcd x.natAbs y.natAbs ≠ 0:=fun h=>hy0 (Nat.eq_zero_of_gcd_eq_zero_right h)
  have hgl:WdN (Nat.gcd x.natAbs y.natAbs) b:=⟨zo (zar (Nat.gcd_le_right _ (Nat.pos_of_ne_zero hy0))) d2.out⟩
  obtain ⟨p1,p2⟩:=zc1 (x:=x) hy
  have hsy:sgnI y ≠ 0:=by have:=ziO hy; simpa using this
  exact zha (x:=x) (y:=y) hl hsy rfl hg0 hgl (by rw [HB1.out,HB2.out]; exact p1) p2.symm
end Go.Proofs.YtombhkpniddceaaGreatDoor
