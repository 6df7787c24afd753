import Derived.Test.YtombhkpniddceaaGreatDoorM10
set_option maxHeartbeats 6400000
set_option maxRecDepth 100000
set_option linter.all false
namespace Go.Proofs.YtombhkpniddceaaGreatDoor
open Go.RowKit
theorem zfo {v1 v2:Value} {q r:Rat} {a b:Nat} {w:World} [h1:RatIs w v1 q] [h2:RatIs w v2 r] [d1:Sz q a] [d2:Sz r b] (hl:a+b <= 2 ^ 35):
  Calls Tryz.prog 121 #[v1,v2] w (RRet w (q+r)):=by
 obtain ⟨s1,rfl,_,n1,k1,HE1⟩:=h1.form
 obtain ⟨s2,rfl,_,n2,k2,HE2⟩:=h2.form
 have hM:a+a+a+a+a+a+a+a+b+b+b+b+b+b+b+b+99 <= MaxW:=by unfold MaxW; omega
 have hM2:a+a+a+b+b+b+9 <= 2 ^ 37:=by omega
 clear hl
 go_enter Tryz.func121,Tryz.ntmps121
 go_upto_region 1 with fail
 go_cut [15] (fun t15 wx=>∃ t:Bool,t15 = .bool t/\(t=true ↔ q.den=1/\r.den=1)/\Nxt (((w.alloc (.cells #[.bool s1.n.b,.slice s1.n.m.A s1.n.m.k s1.n.m.c,.slice s1.d.A s1.d.k s1.d.c] 100)).alloc (.cells #[.bool s2.n.b,.slice s2.n.m.A s2.n.m.k s2.n.m.c,.slice s2.d.A s2.d.k s2.d.c] 100)).alloc (.cells #[.bool false,.slice none 0 0,.slice none 0 0] 100)) wx)
 case first=>
  go_wp2_with ((first | (go_at_call 187; refine zf (zaM (q:=q) (a:=a) (by omega)) ?_; rintro e w1 ⟨rfl,_⟩) | (go_at_call 187; refine zf (zaM (q:=r) (a:=b) (by omega)) ?_; rintro e w1 ⟨rfl,_⟩)))
  all_goals go_meet
  all_goals exact ⟨_,rfl,by simp_all,zaa⟩
 case rest=>
  obtain ⟨tt,rfl,hw',_⟩:=hcut
  cases tt
  rotate_left
  ·have hw := hw'.1 rfl
   have HQ:=zc (show q+r=((q.num+r.num:Int):Rat) by
    rw [zdM hw.1,zdM hw.2,Rat.num_intCast,Rat.num_intCast,Rat.intCast_add])
   clear hw hw'
   go_wp2_with (first | (go_at_call 199; refine zf (zbm (x:=q.num) (y:=r.num) (by omega)) ?_; rintro e w1 ⟨s1,rfl,_,_⟩) | (go_at_call 143; refine zf (zbr) ?_; rintro e w1 ⟨q1,rfl,_,_⟩))
   simp [bodyPost,results,Tryz.results121,go_sem]
   exact ⟨q1,rfl,by rw [HQ.out]; infer_instance,zaa⟩
  ·obtain ⟨g, hg⟩ : ∃ g, Nat.gcd q.den r.den = g := ⟨_, rfl⟩
   have hg0:g ≠ 0:=by rintro rfl; exact q.den_nz (Nat.eq_zero_of_gcd_eq_zero_left hg)
   obtain ⟨N,hN⟩:∃ N,q.num * ((r.den / g:Nat):Int)+r.num * ((q.den / g:Nat):Int)=N:=⟨_,rfl⟩
   obtain ⟨t,ht⟩:∃ t,Nat.gcd N.natAbs g=t:=⟨_,rfl⟩
   have ht0:t ≠ 0:=by rintro rfl; exact hg0 (Nat.eq_zero_of_gcd_eq_zero_right ht)
   have wg1:WdN g b:=⟨by rw [<- hg]; exact zih r.den_nz d2.den⟩
   have wt1:WdN t b:=⟨by rw [<- ht]; exact zih hg0 wg1.out⟩
   have wN:Wd N (a+b+(b+a)+1):=by rw [<- hN]; infer_instance
   have hap:=zmv hg hN ht
   have HG:=zc (show Nat.gcd (q.den:Int).natAbs (r.den:Int).natAbs=g from hg)
   have HT:=zc (show Nat.gcd N.natAbs (g:Int).natAbs=t from ht)
   have nz1:NZ (g:Int):=⟨by omega⟩
   have nz2:NZ (t:Int):=⟨by omega⟩
   have HQ1:=zc (show flr (q.den:Int) (g:Int)=((q.den / g:Nat):Int) by rw [zbN hg0,<- Int.natCast_ediv])
   have HQ2:=zc (show flr (r.den:Int) (g:Int)=((r.den / g:Nat):Int) by rw [zbN hg0,<- Int.natCast_ediv])
   have HN:=zc hN
   have HP1:=zc (show flr N (t:Int)=(q+r).num by rw [zbN ht0]; exact hap.1)
   have HP2:=zc (show (((q.den / g:Nat):Int) * flr (r.den:Int) (t:Int)).natAbs=(q+r).den by
    rw [zbN ht0,<- Int.natCast_ediv,<- Int.natCast_mul,Int.natAbs_natCast]; exact hap.2)
   clear hw' hg hN ht hg0 ht0 hap
   go_wp2_with fail
   go_upto_region 3 with fail
   go_cut [5] (fun t5 wx=>∃ (g5:Nat) (s5:IV),t5 = .pointer (some ⟨g5,0,none⟩)/\Blk wx g5 98 #[.bool s5.b,s5.m.v]/\IntIs wx s5.v (g:Int)/\NewIn g5 wc/\Nxt wc wx)
   case first=>
    (refine Code.nameW ?_; intro W hW; go_region_held3 (fun w'=>ButO W [] w') (exact zab) ((first | (go_at_call 167; refine zf (zak) ?_; rintro e w1 ⟨s1,rfl,_,_⟩) | (go_at_call 162; refine zf (zaA (by omega)) ?_; rintro e w1 ⟨s1,rfl,_,_⟩))))
    all_goals go_wp2_with fail
    all_goals go_meet
    all_goals exact ⟨_,_,rfl,za,by rw [<- HG.out]; infer_instance,zbh,zaa⟩
   case rest=>
    obtain ⟨g5,s5,rfl,_,_,_,_⟩:=hcut
    go_upto_region 4 with fail
    go_cut [6,7] (fun t6 t7 wx=>∃ (g6 g7:Nat) (s6 s7:IV),t6 = .pointer (some ⟨g6,0,none⟩)/\t7 = .pointer (some ⟨g7,0,none⟩)/\Blk wx g6 98 #[.bool s6.b,s6.m.v]/\Blk wx g7 98 #[.bool s7.b,s7.m.v] /\
     IntIs wx s6.v ((q.den / g:Nat):Int)/\IntIs wx s7.v ((r.den / g:Nat):Int)/\NewIn g6 wc/\NewIn g7 wc/\Nxt wc wx)
    case first=>
     (refine Code.nameW ?_; intro W hW; go_region_held3 (fun w'=>ButO W [] w') (exact zab) ((first | (go_at_call 167; refine zf (zak) ?_; rintro e w1 ⟨s1,rfl,_,_⟩) | (go_at_call 172; refine zf (zal (by omega)) ?_; rintro e w1 ⟨s1,rfl,_,_⟩))))
     all_goals go_wp2_with fail
     all_goals go_meet
     all_goals exact ⟨_,_,_,_,rfl,rfl,za,za,by rw [<- HQ1.out]; infer_instance,by rw [<- HQ2.out]; infer_instance,zbh,zbh,zaa⟩
    case rest=>
     obtain ⟨g6,g7,s6,s7,rfl,rfl,_,_,_,_,_,_,_⟩:=hcut
     go_upto_region 5 with fail
     go_cut [8] (fun t8 wx=>∃ (g8:Nat) (s8:IV),t8 = .pointer (some ⟨g8,0,none⟩)/\Blk wx g8 98 #[.bool s8.b,s8.m.v]/\IntIs wx s8.v N/\NewIn g8 wc/\Nxt wc wx)
     case first=>
      (refine Code.nameW ?_; intro W hW; go_region_held3 (fun w'=>ButO W [] w') (exact zab) ((first | (go_at_call 168; refine zf (zah (by omega)) ?_; rintro e w1 ⟨s1,rfl,_,_⟩) | (go_at_call 199; refine zf (zbm (by omega)) ?_; rintro e w1 ⟨s1,rfl,_,_⟩))))
      all_goals go_wp2_with fail
      all_goals go_meet
      all_goals exact ⟨_,_,rfl,za,by rw [<- HN.out]; infer_instance,zbh,zaa⟩
     case rest=>
      obtain ⟨g8,s8,rfl,_,_,_,_⟩:=hcut
      go_wp2_with (go_at_call 162; refine zf (zaA (x:=N) (y:=(g:Int)) (by omega)) ?_; rw [HT.out]; rintro e w9 ⟨s9,rfl,_,_⟩)
      (refine Code.nameW ?_; intro W hW; go_region_held3 (fun w'=>ButO W [w.heap.size+1+1] w') (exact zab) ((first | (go_at_call 167; refine zf (zak) ?_; rintro e w1 ⟨s1,rfl,_,_⟩) | (go_at_call 172; refine zf (zal (by omega)) ?_; rintro e w1 ⟨s1,rfl,_,_⟩) | (go_at_call 168; refine zf (zah (by omega)) ?_; rintro e w1 ⟨s1,rfl,_,_⟩))))
      all_goals (have n8:=IntIs.nat (w:=w1) (s:=s1) za; rw [HP2.out] at n8)
      all_goals go_wp2_with fail
      all_goals simp [bodyPost,results,Tryz.results121,go_sem]
      all_goals exact ⟨⟨_,s1.m⟩,rfl,RatIs.made (by rw [<- HP1.out]; infer_instance) (za:NatIs _ s1.m.v _) (Or.inl rfl),zaa⟩
end Go.Proofs.YtombhkpniddceaaGreatDoor
