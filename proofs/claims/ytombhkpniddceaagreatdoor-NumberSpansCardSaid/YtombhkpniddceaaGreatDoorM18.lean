import Derived.Test.YtombhkpniddceaaGreatDoorM10
set_option maxHeartbeats 6400000
set_option maxRecDepth 100000
set_option linter.all false
namespace Go.Proofs.YtombhkpniddceaaGreatDoor
open Go.RowKit
theorem zcW {v1 v2:Value} {q r:Rat} {a b:Nat} {w:World} [h1:RatIs w v1 q] [h2:RatIs w v2 r] [d1:Sz q a] [d2:Sz r b] (hl:a+b <= 2 ^ 36):
  Calls Tryz.prog 122 #[v1,v2] w (RRet w (q * r)):=by
 obtain ⟨s1,rfl,_,n1,k1,HE1⟩:=h1.form
 obtain ⟨s2,rfl,_,n2,k2,HE2⟩:=h2.form
 have hM:a+a+a+a+a+b+b+b+b+b+99 <= MaxW:=by unfold MaxW; omega
 have hM2:a+b <= 2 ^ 37:=by omega
 have hM3:b+a <= 2 ^ 37:=by omega
 clear hl
 go_enter Tryz.func122,Tryz.ntmps122
 go_upto_region 1 with fail
 go_cut [13] (fun t13 wx=>∃ t:Bool,t13 = .bool t/\(t=true ↔ q.den=1/\r.den=1)/\Nxt (((w.alloc (.cells #[.bool s1.n.b,.slice s1.n.m.A s1.n.m.k s1.n.m.c,.slice s1.d.A s1.d.k s1.d.c] 100)).alloc (.cells #[.bool s2.n.b,.slice s2.n.m.A s2.n.m.k s2.n.m.c,.slice s2.d.A s2.d.k s2.d.c] 100)).alloc (.cells #[.bool false,.slice none 0 0,.slice none 0 0] 100)) wx)
 case first=>
  go_wp2_with ((first | (go_at_call 187; refine zf (zaM (q:=q) (a:=a) (by omega)) ?_; rintro e w1 ⟨rfl,_⟩) | (go_at_call 187; refine zf (zaM (q:=r) (a:=b) (by omega)) ?_; rintro e w1 ⟨rfl,_⟩)))
  all_goals go_meet
  all_goals exact ⟨_,rfl,by simp_all,zaa⟩
 case rest=>
  obtain ⟨tt,rfl,hw',_⟩:=hcut
  cases tt
  rotate_left
  ·have hw := hw'.1 rfl
   have HQ:=zc (show q * r=((q.num * r.num:Int):Rat) by
    rw [zdM hw.1,zdM hw.2,Rat.num_intCast,Rat.num_intCast,Rat.intCast_mul])
   clear hw hw'
   go_wp2_with (first | (go_at_call 168; refine zf (zah (x:=q.num) (y:=r.num) (by omega)) ?_; rintro e w1 ⟨s1,rfl,_,_⟩) | (go_at_call 143; refine zf (zbr) ?_; rintro e w1 ⟨q1,rfl,_,_⟩))
   simp [bodyPost,results,Tryz.results122,go_sem]
   exact ⟨q1,rfl,by rw [HQ.out]; infer_instance,zaa⟩
  ·obtain ⟨l, hl⟩ : ∃ l, Nat.gcd q.num.natAbs r.den = l := ⟨_, rfl⟩
   obtain ⟨t,ht⟩:∃ t,Nat.gcd r.num.natAbs q.den=t:=⟨_,rfl⟩
   have hl0:l ≠ 0:=by rintro rfl; exact r.den_nz (Nat.eq_zero_of_gcd_eq_zero_right hl)
   have ht0:t ≠ 0:=by rintro rfl; exact q.den_nz (Nat.eq_zero_of_gcd_eq_zero_right ht)
   have wl1:WdN l b:=⟨by rw [<- hl]; exact zih r.den_nz d2.den⟩
   have wt1:WdN t a:=⟨by rw [<- ht]; exact zih q.den_nz d1.den⟩
   have hmp:=zhV hl ht
   have HL:=zc (show Nat.gcd q.num.natAbs (r.den:Int).natAbs=l from hl)
   have HT:=zc (show Nat.gcd r.num.natAbs (q.den:Int).natAbs=t from ht)
   have nz1:NZ (l:Int):=⟨by omega⟩
   have nz2:NZ (t:Int):=⟨by omega⟩
   have HP1:=zc (show flr q.num (l:Int) * flr r.num (t:Int)=(q * r).num by rw [zbN hl0,zbN ht0]; exact hmp.1)
   have HP2:=zc (show (flr (q.den:Int) (t:Int) * flr (r.den:Int) (l:Int)).natAbs=(q * r).den by
    rw [zbN hl0,zbN ht0,<- Int.natCast_ediv,<- Int.natCast_ediv,<- Int.natCast_mul,Int.natAbs_natCast]; exact hmp.2)
   clear hw' hl ht hl0 ht0 hmp
   go_wp2_with fail
   go_upto_region 3 with fail
   go_cut [5,6] (fun t5 t6 wx=>∃ (g5 g6:Nat) (s5 s6:IV),t5 = .pointer (some ⟨g5,0,none⟩)/\t6 = .pointer (some ⟨g6,0,none⟩)/\Blk wx g5 98 #[.bool s5.b,s5.m.v]/\Blk wx g6 98 #[.bool s6.b,s6.m.v] /\
    IntIs wx s5.v (l:Int)/\IntIs wx s6.v (t:Int)/\NewIn g5 wc/\NewIn g6 wc/\Nxt wc wx)
   case first=>
    (refine Code.nameW ?_; intro W hW; go_region_held3 (fun w'=>ButO W [] w') (exact zab) ((first | (go_at_call 167; refine zf (zak) ?_; rintro e w1 ⟨s1,rfl,_,_⟩) | (go_at_call 162; refine zf (zaA (by omega)) ?_; rintro e w1 ⟨s1,rfl,_,_⟩))))
    all_goals go_wp2_with fail
    all_goals go_meet
    all_goals exact ⟨_,_,_,_,rfl,rfl,za,za,by rw [<- HL.out]; infer_instance,by rw [<- HT.out]; infer_instance,zbh,zbh,zaa⟩
   case rest=>
    obtain ⟨g5,g6,s5,s6,rfl,rfl,_,_,_,_,_,_,_⟩:=hcut
    go_upto_region 4 with fail
    go_cut [7] (fun t7 wx=>∃ (g7:Nat) (s7:IV),t7 = .pointer (some ⟨g7,0,none⟩)/\Blk wx g7 98 #[.bool s7.b,s7.m.v]/\IntIs wx s7.v (q * r).num/\NewIn g7 wc/\Nxt wc wx)
    case first=>
     (refine Code.nameW ?_; intro W hW; go_region_held3 (fun w'=>ButO W [] w') (exact zab) ((first | (go_at_call 172; refine zf (zal (by omega)) ?_; rintro e w1 ⟨s1,rfl,_,_⟩) | (go_at_call 168; refine zf (zah (by omega)) ?_; rintro e w1 ⟨s1,rfl,_,_⟩))))
     all_goals go_wp2_with fail
     all_goals go_meet
     all_goals exact ⟨_,_,rfl,za,by rw [<- HP1.out]; infer_instance,zbh,zaa⟩
    case rest=>
     obtain ⟨g7,s7,rfl,_,_,_,_⟩:=hcut
     go_wp2_with fail
     (refine Code.nameW ?_; intro W hW; go_region_held3 (fun w'=>ButO W [w.heap.size+1+1] w') (exact zab) ((first | (go_at_call 167; refine zf (zak) ?_; rintro e w1 ⟨s1,rfl,_,_⟩) | (go_at_call 172; refine zf (zal (by omega)) ?_; rintro e w1 ⟨s1,rfl,_,_⟩) | (go_at_call 168; refine zf (zah (by omega)) ?_; rintro e w1 ⟨s1,rfl,_,_⟩))))
     all_goals (have n8:=IntIs.nat (w:=w1) (s:=s1) za; rw [HP2.out] at n8)
     all_goals go_wp2_with fail
     all_goals simp [bodyPost,results,Tryz.results122,go_sem]
     all_goals exact ⟨⟨s7,s1.m⟩,rfl,RatIs.made (za:IntIs _ s7.v _) (za:NatIs _ s1.m.v _) (Or.inl rfl),zaa⟩
end Go.Proofs.YtombhkpniddceaaGreatDoor
