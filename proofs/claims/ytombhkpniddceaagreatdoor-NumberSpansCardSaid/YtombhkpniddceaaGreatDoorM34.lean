import Derived.Test.YtombhkpniddceaaGreatDoorM31
set_option maxHeartbeats 6400000
set_option maxRecDepth 100000
set_option synthInstance.maxSize 1024
set_option linter.all false
namespace Go.Proofs.YtombhkpniddceaaGreatDoor
open List renaming setIfInBounds_toArray -> zs0,set_cons_zero -> zs1,set_cons_succ -> zs2
open Go.Lib Go.RowKit Go.Sort
section
variable {w:World} {v:Value} {n:Int} {a k:Nat}
theorem root_c {x:Rat} {rn rd r:Nat} [h1:RatIs w v x] [d1:Sz x a] (ha:a <= 2 ^ 20) (hk:k <= 2 ^ 20) (hx:0 <= x.num) (hn:zb5 x.num.natAbs rn) (hd:zb5 x.den rd) (hr:zb5 (x.num.natAbs * 100 ^ k / x.den) r):
  Calls Tryz.prog 73 #[v,.int .i64 (k:Int)] w (VRet w (rootI x rn rd r k)):=by
 obtain ⟨s,rfl,_,n1,k1,HE1⟩:=h1.form
 have HK:=zc hk; have HA:=zc ha; have HX:=zc hx; have HN:=zc hn; have HD:=zc hd; have HR:=zc hr
 have HM:a+a+a+a+99 <= MaxW:=by unfold MaxW; omega
 have wn:Wd (rn:Int) a:=zd7 hn d1.num
 have wd:Wd (rd:Int) a:=zd7 hd d1.den
 have HT1:=zc (show (rn:Int) * rn=x.num -> (rd:Int) * rd=x.den -> rootI x rn rd r k=(Rat.divInt rn rd,Rat.divInt rn rd) from fun h h2=>if_pos ⟨h,h2⟩)
 have HT2:=zc (show ¬ ((rn:Int) * rn=x.num/\(rd:Int) * rd=x.den) -> rootI x rn rd r k=stepI r k from fun h=>if_neg h)
 obtain ⟨c1,hc1⟩:∃ c,cmpI ((rn:Int) * rn) x.num=c:=⟨_,rfl⟩
 obtain ⟨c2,hc2⟩:∃ c,cmpI ((rd:Int) * rd) (x.den:Int)=c:=⟨_,rfl⟩
 have HC1:=zc hc1; have HC2:=zc hc2
 have e1:c1=0 ↔ (rn:Int) * rn=x.num:=by rw [<- hc1]; exact zfX
 have e2:c2=0 ↔ (rd:Int) * rd=(x.den:Int):=by rw [<- hc2]; exact zfX
 have HE1:=zc e1; have HE2:=zc e2
 have HRS:=zc (show zb5 (flr (x.num * (100:Int) ^ k) (x.den:Int)).natAbs r by
  rw [zbN x.den_nz]
  have e:x.num=(x.num.natAbs:Int):=by omega
  have h4:(x.num.natAbs:Int) * 100 ^ k / (x.den:Int)=((x.num.natAbs * 100 ^ k / x.den:Nat):Int):=by simp
  rw [e,h4,Int.natAbs_natCast]; exact hr)
 have HR0:=zc (show 0 <= flr (x.num * (100:Int) ^ k) (x.den:Int) by
  rw [zbN x.den_nz]
  exact Int.ediv_nonneg (Int.mul_nonneg hx (Int.pow_nonneg (by decide))) (by omega))
 have nz:NZ (x.den:Int):=⟨by have:=x.den_nz; omega⟩
 have wr:Wd (r:Int) (a+(k+1)+1):=zd7 HRS.out (za:Wd (flr (x.num * (100:Int) ^ k) (x.den:Int)) (a+(k+1)+1)).out
 have HM2:a+(k+1)+(a+(k+1))+(a+(k+1))+(a+(k+1))+99 <= MaxW:=by unfold MaxW; omega
 clear ha hk hx hn hd hr hc1 hc2 e1 e2
 go_enter Tryz.func73,Tryz.ntmps73
 go_upto_region 1 with fail
 go_cut [5,6] (fun t5 t6 wx=>∃ (g5 g6:Nat) (s5 s6:IV),t5 = .pointer (some ⟨g5,0,none⟩)/\t6 = .pointer (some ⟨g6,0,none⟩)/\Blk wx g5 98 #[.bool s5.b,s5.m.v]/\Blk wx g6 98 #[.bool s6.b,s6.m.v] /\
  Blk wx w.heap.size 100 #[.bool s.n.b,.slice s.n.m.A s.n.m.k s.n.m.c,.slice s.d.A s.d.k s.d.c] /\
  Blk wx (w.heap.size+1) 106 #[.bool false,.slice none 0 0,.slice none 0 0,.bool false,.slice none 0 0,.slice none 0 0] /\
  IntIs wx s5.v (rn:Int)/\IntIs wx s6.v (rd:Int)/\Ge g5 w/\Ge g6 w/\Apart (w.heap.size+1) g5/\Apart (w.heap.size+1) g6/\Nxt w wx)
 case first=>
  (refine Code.nameW ?_; intro W hW; go_region_held3 (fun w'=>ButO W [] w') (exact zab) ((first | (go_at_call 165; refine zf (zby) ?_; rintro e w1 ⟨s1,rfl,_,_⟩) | (go_at_call 167; refine zf (zak) ?_; rintro e w1 ⟨s1,rfl,_,_⟩) | (go_at_call 166; refine zf (zen (by first | exact HX.out | omega) (by have:=HA.out; omega) (by first | exact HN.out | exact HD.out)) ?_; rintro e w1 ⟨s1,rfl,_,_⟩))))
  all_goals go_wp2_with fail
  all_goals go_meet
  all_goals exact ⟨_,_,_,_,rfl,rfl,za,za,za,za,za,za,zif,zif,za,za,zaa⟩
 case rest=>
  obtain ⟨g5,g6,s5,s6,rfl,rfl,_,_,_,_,_,_,_,_,_,_,_⟩:=hcut
  by_cases h1:c1=0
  ·by_cases h2 : c2 = 0
   ·have HT := zc (HT1.out (HE1.out.1 h1) (HE2.out.1 h2))
    subst h1 h2
    go_wp2_with fail
    (refine Code.nameW ?_; intro W hW; have hu:undef=Value.tuple #[]:=rfl; first | (go_region_held3 (fun w'=>ButO W [] w') (exact zab) ((first | (go_at_call 165; refine zf (zby) ?_; rintro e w1 ⟨s1,rfl,_,_⟩) | (go_at_call 167; refine zf (zak) ?_; rintro e w1 ⟨s1,rfl,_,_⟩) | (go_at_call 168; refine zf (zah (by omega)) ?_; rintro e w1 ⟨s1,rfl,_,_⟩) | (go_at_call 169; refine zf (za2 (by omega) (by first | exact HC1.out | exact HC2.out)) ?_; rintro e w1 ⟨rfl,_⟩)))) | fail)
    all_goals go_wp2_with (first | (go_at_call 140; refine zf (zcg (by have:=HA.out; omega)) ?_; rintro e w1 ⟨q1,rfl,_,_⟩) | (go_at_call 170; refine zf (zg2) ?_; rintro e w1 ⟨p1,p2,rfl,_,_,_⟩))
    all_goals simp [bodyPost,results,Tryz.results73,go_sem]
    all_goals exact ⟨_,_,rfl,by rw [HT.out]; infer_instance,by rw [HT.out]; infer_instance,zaa⟩
   ·have HT := zc (HT2.out (fun h => h2 (HE2.out.2 h.2)))
    have f2:(c2 == 0)=false:=by simpa using h2
    subst h1
    clear h2
    go_wp2_with fail
    (refine Code.nameW ?_; intro W hW; have hu:undef=Value.tuple #[]:=rfl; first | (go_region_held3 (fun w'=>ButO W [] w') (exact zab) ((first | (go_at_call 165; refine zf (zby) ?_; rintro e w1 ⟨s1,rfl,_,_⟩) | (go_at_call 167; refine zf (zak) ?_; rintro e w1 ⟨s1,rfl,_,_⟩) | (go_at_call 168; refine zf (zah (by omega)) ?_; rintro e w1 ⟨s1,rfl,_,_⟩) | (go_at_call 169; refine zf (za2 (by omega) (by first | exact HC1.out | exact HC2.out)) ?_; rintro e w1 ⟨rfl,_⟩)))) | fail)
    all_goals go_wp2_with fail
    all_goals (refine Code.nameW ?_; intro W hW; go_region_held3 (fun w'=>ButO W [] w') (exact zab) ((first | (go_at_call 165; refine zf (zby) ?_; rintro e w1 ⟨s1,rfl,_,_⟩) | (go_at_call 167; refine zf (zak) ?_; rintro e w1 ⟨s1,rfl,_,_⟩) | (go_at_call 168; refine zf (zah (by omega)) ?_; rintro e w1 ⟨s1,rfl,_,_⟩) | (go_at_call 172; refine zf (zal (by omega)) ?_; rintro e w1 ⟨s1,rfl,_,_⟩) | (go_at_call 171; refine zf (zdN (b:=100) (by decide) (by decide) (by have:=HK.out; omega)) ?_; rintro e w1 ⟨s1,rfl,_,_⟩))))
    all_goals go_wp2_with (first | (go_at_call 166; refine zf (zen HR0.out (by have:=HA.out; have:=HK.out; omega) HRS.out) ?_; rintro e w1 ⟨s1,rfl,_,_⟩) | (go_at_call 173; refine zf (zcf (by have:=HA.out; have:=HK.out; omega) (by have:=HK.out; omega)) ?_; rintro e w1 ⟨p1,p2,rfl,_,_,_⟩))
    all_goals simp [bodyPost,results,Tryz.results73,go_sem]
    all_goals exact ⟨_,_,rfl,by rw [HT.out]; infer_instance,by rw [HT.out]; infer_instance,zaa⟩
  ·have HT := zc (HT2.out (fun h => h1 (HE1.out.2 h.1)))
   have f1:(c1 == 0)=false:=by simpa using h1
   clear h1
   go_wp2_with fail
   refine Code.nameW ?_; intro W hW; have hu:undef=Value.tuple #[]:=rfl
   refine wp_region_held_drew (S:=fun w'=>ButO W [] w') (by kernel_rfl) ?_ (fun hHeld=>?_)
   ·exact zab
   (refine take_at (i:=0) (d:=some 14) (v:=?_) rfl rfl (by kernel_rfl) (by kernel_rfl) (by kernel_rfl) (fun _ _ _ h=>h) (Or.inl ⟨by rfl,?_⟩) (by assumption) ?_; rotate_left; (intro w hSw; (try dsimp only at hSw); go_simp); all_goals (try with_reducible rfl); try simp only [Act.put,zs0,zs1,zs2])
   (refine take_at (i:=1) (d:=some 15) (v:=?_) rfl rfl (by kernel_rfl) (by kernel_rfl) (by kernel_rfl) (fun _ _ _ h=>h) (Or.inl ⟨by rfl,?_⟩) (by assumption) ?_; rotate_left; (intro w hSw; (try dsimp only at hSw); go_simp); all_goals (try with_reducible rfl); try simp only [Act.put,zs0,zs1,zs2])
   (refine take_at (i:=3) (d:=some 17) (v:=?_) rfl rfl (by kernel_rfl) (by kernel_rfl) (by kernel_rfl) (fun _ _ _ h=>h) (Or.inl ⟨by rfl,?_⟩) (by assumption) ?_; rotate_left; (intro w hSw; (try dsimp only at hSw); go_simp); all_goals (try with_reducible rfl); try simp only [Act.put,zs0,zs1,zs2])
   (refine wpAnyH_ready (rs:=[2]) (by kernel_rfl) (by simp) ?_; refine AllReadyH.cons rfl (fun K hK=>?_) AllReadyH.nil; go_simp; (first | (go_at_call 165; refine zf (zby) ?_; rintro e w1 ⟨s1,rfl,_,_⟩) | (go_at_call 167; refine zf (zak) ?_; rintro e w1 ⟨s1,rfl,_,_⟩) | (go_at_call 168; refine zf (zah (by omega)) ?_; rintro e w1 ⟨s1,rfl,_,_⟩) | (go_at_call 169; refine zf (za2 (by omega) (by first | exact HC1.out | exact HC2.out)) ?_; rintro e w1 ⟨rfl,_⟩)); (try dsimp only); refine hK.out _ _ ?_ (fun hHeld2=>?_); (try dsimp only); (exact zab); clear hK K hHeld; have hHeld:=hHeld2; clear hHeld2; try simp only [Act.put,zs0,zs1,zs2])
   (refine wpAnyH_ready (rs:=[4]) (by kernel_rfl) (by simp) ?_; refine AllReadyH.cons rfl (fun K hK=>?_) AllReadyH.nil; go_simp; (first | (go_at_call 165; refine zf (zby) ?_; rintro e w1 ⟨s1,rfl,_,_⟩) | (go_at_call 167; refine zf (zak) ?_; rintro e w1 ⟨s1,rfl,_,_⟩) | (go_at_call 168; refine zf (zah (by omega)) ?_; rintro e w1 ⟨s1,rfl,_,_⟩) | (go_at_call 169; refine zf (za2 (by omega) (by first | exact HC1.out | exact HC2.out)) ?_; rintro e w1 ⟨rfl,_⟩)); (try dsimp only); refine hK.out _ _ ?_ (fun hHeld2=>?_); (try dsimp only); (exact zab); clear hK K hHeld; have hHeld:=hHeld2; clear hHeld2; try simp only [Act.put,zs0,zs1,zs2])
   (refine wpAnyH_ready (rs:=[5]) (by kernel_rfl) (by simp) ?_; refine AllReadyH.cons rfl (fun K hK=>?_) AllReadyH.nil; go_simp; (first | (go_at_call 165; refine zf (zby) ?_; rintro e w1 ⟨s1,rfl,_,_⟩) | (go_at_call 167; refine zf (zak) ?_; rintro e w1 ⟨s1,rfl,_,_⟩) | (go_at_call 168; refine zf (zah (by omega)) ?_; rintro e w1 ⟨s1,rfl,_,_⟩) | (go_at_call 169; refine zf (za2 (by omega) (by first | exact HC1.out | exact HC2.out)) ?_; rintro e w1 ⟨rfl,_⟩)); (try dsimp only); refine hK.out _ _ ?_ (fun hHeld2=>?_); (try dsimp only); (exact zab); clear hK K hHeld; have hHeld:=hHeld2; clear hHeld2; try simp only [Act.put,zs0,zs1,zs2])
   (refine take_at (i:=6) (d:=some 20) (v:=?_) rfl rfl (by kernel_rfl) (by kernel_rfl) (by kernel_rfl) (fun _ _ _ h=>h) (Or.inl ⟨by rfl,?_⟩) (by assumption) ?_; rotate_left; (intro w hSw; (try dsimp only at hSw); go_simp); all_goals (try with_reducible rfl); try simp only [Act.put,zs0,zs1,zs2])
   (refine take_at (i:=7) (d:=some 21) (v:=?_) rfl rfl (by kernel_rfl) (by kernel_rfl) (by kernel_rfl) (fun _ _ _ h=>h) (Or.inl ⟨by rfl,?_⟩) (by assumption) ?_; rotate_left; (intro w hSw; (try dsimp only at hSw); go_simp); all_goals (try with_reducible rfl); try simp only [Act.put,zs0,zs1,zs2])
   (refine take_at (i:=8) (d:=some 22) (v:=Value.tuple #[]) rfl rfl (by kernel_rfl) (by kernel_rfl) (by kernel_rfl) (fun _ _ _ h=>h) (Or.inr ⟨by rfl,rfl⟩) (by assumption) ?_; try simp only [Act.put,zs0,zs1,zs2])
   (refine take_at (i:=9) (d:=some 23) (v:=Value.tuple #[]) rfl rfl (by kernel_rfl) (by kernel_rfl) (by kernel_rfl) (fun _ _ _ h=>h) (Or.inr ⟨by rfl,rfl⟩) (by assumption) ?_; try simp only [Act.put,zs0,zs1,zs2])
   (refine take_at (i:=10) (d:=some 24) (v:=Value.tuple #[]) rfl rfl (by kernel_rfl) (by kernel_rfl) (by kernel_rfl) (fun _ _ _ h=>h) (Or.inr ⟨by rfl,rfl⟩) (by assumption) ?_; try simp only [Act.put,zs0,zs1,zs2])
   (refine take_at (i:=11) (d:=some 25) (v:=Value.tuple #[]) rfl rfl (by kernel_rfl) (by kernel_rfl) (by kernel_rfl) (fun _ _ _ h=>h) (Or.inr ⟨by rfl,rfl⟩) (by assumption) ?_; try simp only [Act.put,zs0,zs1,zs2])
   (refine take_at (i:=12) (d:=some 26) (v:=Value.tuple #[]) rfl rfl (by kernel_rfl) (by kernel_rfl) (by kernel_rfl) (fun _ _ _ h=>h) (Or.inr ⟨by rfl,rfl⟩) (by assumption) ?_; try simp only [Act.put,zs0,zs1,zs2])
   (refine take_at (i:=13) (d:=some 27) (v:=Value.tuple #[]) rfl rfl (by kernel_rfl) (by kernel_rfl) (by kernel_rfl) (fun _ _ _ h=>h) (Or.inr ⟨by rfl,rfl⟩) (by assumption) ?_; try simp only [Act.put,zs0,zs1,zs2])
   (refine take_at (i:=14) (d:=some 28) (v:=Value.tuple #[]) rfl rfl (by kernel_rfl) (by kernel_rfl) (by kernel_rfl) (fun _ _ _ h=>h) (Or.inr ⟨by rfl,rfl⟩) (by assumption) ?_; try simp only [Act.put,zs0,zs1,zs2])
   (refine take_at (i:=15) (d:=some 29) (v:=?_) rfl rfl (by kernel_rfl) (by kernel_rfl) (by kernel_rfl) (fun _ _ _ h=>h) (Or.inl ⟨by rfl,?_⟩) (by assumption) ?_; rotate_left; (intro w hSw; (try dsimp only at hSw); go_simp); all_goals (try with_reducible rfl); try simp only [Act.put,zs0,zs1,zs2])
   refine wpAnyH_done (by kernel_rfl) ?_ _
   all_goals go_wp2_with fail
   all_goals (refine Code.nameW ?_; intro W hW; go_region_held3 (fun w'=>ButO W [] w') (exact zab) ((first | (go_at_call 165; refine zf (zby) ?_; rintro e w1 ⟨s1,rfl,_,_⟩) | (go_at_call 167; refine zf (zak) ?_; rintro e w1 ⟨s1,rfl,_,_⟩) | (go_at_call 168; refine zf (zah (by omega)) ?_; rintro e w1 ⟨s1,rfl,_,_⟩) | (go_at_call 172; refine zf (zal (by omega)) ?_; rintro e w1 ⟨s1,rfl,_,_⟩) | (go_at_call 171; refine zf (zdN (b:=100) (by decide) (by decide) (by have:=HK.out; omega)) ?_; rintro e w1 ⟨s1,rfl,_,_⟩))))
   all_goals go_wp2_with (first | (go_at_call 166; refine zf (zen HR0.out (by have:=HA.out; have:=HK.out; omega) HRS.out) ?_; rintro e w1 ⟨s1,rfl,_,_⟩) | (go_at_call 173; refine zf (zcf (by have:=HA.out; have:=HK.out; omega) (by have:=HK.out; omega)) ?_; rintro e w1 ⟨p1,p2,rfl,_,_,_⟩))
   all_goals simp [bodyPost,results,Tryz.results73,go_sem]
   all_goals exact ⟨_,_,rfl,by rw [HT.out]; infer_instance,by rw [HT.out]; infer_instance,zaa⟩
end
end Go.Proofs.YtombhkpniddceaaGreatDoor
