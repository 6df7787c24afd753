import Derived.Test.YtombhkpniddceaaGreatDoorM22
set_option maxHeartbeats 12800000
set_option maxRecDepth 100000
set_option synthInstance.maxSize 20000
set_option linter.all false
namespace Go.Proofs.YtombhkpniddceaaGreatDoor
open List renaming setIfInBounds_toArray -> zs0,set_cons_zero -> zs1,set_cons_succ -> zs2
open Go.RowKit
theorem RAt.row_ {w:World} {v:Value} {qs:List Rat} (h:RAt w v qs):∃ (g:Nat) (us:List RV),v = .slice (some ⟨g,0,none⟩) qs.length qs.length/\Blk w g 100 (zau us)/\∀ (i:Nat) (q:Rat),qs[i]?=some q -> ∃ u:RV,(zau us)[i * 3]?=some (.bool u.n.b)/\(zau us)[i * 3+1]?=some (.slice u.n.m.A u.n.m.k u.n.m.c)/\(zau us)[i * 3+2]?=some (.slice u.d.A u.d.k u.d.c)/\RatIs w u.v q:=by
 obtain ⟨g,us,hv,hb,hl,hq⟩:=h
 refine ⟨g,us,hv,hb,fun i q hi=>?_⟩
 have hlt:i < us.length:=by rw [hl]; exact (zh.1 hi).1
 have hu:us[i]?=some us[i]:=zg hlt
 obtain ⟨h0,h1,h2⟩:=zcv hu
 exact ⟨us[i],by rw [zau,List.getElem?_toArray,h0],by rw [zau,List.getElem?_toArray,h1],by rw [zau,List.getElem?_toArray,h2],hq i _ q hu hi⟩
def lcmQ (qs:List Rat):Nat -> Int
 | 0=>1
 | i+1=>lcmQ qs i * flr ((qs.getD i 0).den:Int) ((Nat.gcd (lcmQ qs i).natAbs ((qs.getD i 0).den:Int).natAbs:Nat):Int)
theorem getD_sz {qs:List Rat} {b:Nat} (hb:2 <= b) (h:∀ q ∈ qs,Sz q b) (i:Nat):Sz (qs.getD i 0) b:=by
 rw [List.getD_eq_getElem?_getD]
 cases hk:qs[i]? with
 | none=>exact ⟨zo (by decide +kernel:wl (0:Rat).num.natAbs <= 2) hb,zo (by decide +kernel:wl (0:Rat).den <= 2) hb⟩
 | some q=>exact h q (zk hk)
theorem zfD {qs:List Rat} {b:Nat} (hb:2 <= b) (h:∀ q ∈ qs,Sz q b):∀ i,Wd (lcmQ qs i) (i * (b+1)+1)
 | 0=>⟨by show wl 1 <= _; rw [za1]; omega⟩
 | i+1=>by
  have h1:=zfD hb h i
  have h2:=getD_sz hb h i
  have h3:Wd (lcmQ qs i * flr ((qs.getD i 0).den:Int) ((Nat.gcd (lcmQ qs i).natAbs ((qs.getD i 0).den:Int).natAbs:Nat):Int)) (i * (b+1)+1+(b+1)):=za
  exact ⟨zo h3.out (by rw [Nat.succ_mul]; omega)⟩
theorem zdY {v:Value} {qs:List Rat} {k b:Nat} {w:World} (hv:RAt w v qs) (hk:qs.length=k) (hb:2 <= b) (hn:k * (b+1)+b+1 <= 2 ^ 26) (hsz:∀ q ∈ qs,Sz q b):
  Calls Tryz.prog 190 #[v] w (IRet w (lcmQ qs k)):=by
 have hk64:k <= 2 ^ 26:=zo (Nat.le_mul_of_pos_right k (by omega)) (by omega:k * (b+1) <= 2 ^ 26)
 have HSZ:=zc hsz; have HWD:=zc (zfD hb hsz)
 have HB:=zc (fun (i:Nat) (hi:i <= k)=>show i * (b+1)+b+1 <= 2 ^ 26 from zo (by have:=Nat.mul_le_mul_right (b+1) hi; omega) hn)
 have HQL:=zc hk; have HN:=zc hk64
 obtain ⟨gx,ux,rfl,hbx,hxat⟩:=RAt.row_ hv
 rw [hk]
 have HROW:=zc (fun (i:Nat) (hi:i < k)=>show ∃ (q:Rat) (u:RV),qs.getD i 0=q/\Sz q b/\(zau ux)[i * 3]?=some (.bool u.n.b)/\(zau ux)[i * 3+1]?=some (.slice u.n.m.A u.n.m.k u.n.m.c)/\(zau ux)[i * 3+2]?=some (.slice u.d.A u.d.k u.d.c)/\RatIs w u.v q from by
  have hq:qs[i]?=some (qs[i]'(by rw [HQL.out]; exact hi)):=zg _
  obtain ⟨u,a0,a1,a2,a3⟩:=hxat i _ hq
  exact ⟨_,u,by rw [List.getD_eq_getElem?_getD,hq]; rfl,HSZ.out _ (zk hq),a0,a1,a2,a3⟩)
 clear hv hk hn hsz hxat hb hk64
 go_enter Tryz.func190,Tryz.ntmps190
 go_wp2_with ((first | (go_at_call 141; refine zf (zaD (by omega) (by omega)) ?_; rintro e w1 ⟨s1,rfl,_,_⟩)))
 go_loopw [9] (fun s9 wr=>∃ (i:Nat) (s:IV),s9 = .int .i64 (i:Int)/\i <= k/\Blk wr w1.heap.size 98 #[.bool s.b,s.m.v]/\Blk wr w.heap.size 98 #[.bool false,.slice none 0 0]/\IntIs wr s.v (lcmQ qs i)/\Nxt w wr) (fun s9 _=>k - (intOf s9).toNat)
 case atStart=>exact ⟨0,s1,rfl,Nat.zero_le _,za,za,za,zaa⟩
 case round=>
  obtain ⟨i,s,rfl,hi,_,_,_,_⟩:=hrel
  by_cases hin:i < k
  ·have hlt : decide ((i : Int) < (k : Int)) = true := by simp; omega
   have hlt':(i:Int) < (k:Int):=by omega
   have hadd:IntKind.i64.wrap ((i:Int)+1)=((i+1:Nat):Int):=by have:=HN.out; rw [zx]; omega
   obtain ⟨q,u,hq,dq,a0,a1,a2,a3⟩:=HROW.out i hin
   have dw:=HWD.out i
   have HX:=zc (show lcmQ qs i * flr (q.den:Int) ((Nat.gcd (lcmQ qs i).natAbs (q.den:Int).natAbs:Nat):Int)=lcmQ qs (i+1) by rw [<- hq]; rfl)
   have HQ:=zc hq; have HIN:=zc hin; have HADD:=zc hadd
   have nzd:(q.den:Int) ≠ 0:=by have:=q.den_nz; omega
   have nz:NZ ((Nat.gcd (lcmQ qs i).natAbs (q.den:Int).natAbs:Nat):Int):=⟨by
    intro h
    have h2:=Nat.gcd_eq_zero_iff.1 (Int.ofNat_eq_zero.1 h)
    have:=q.den_nz
    simp at h2
    omega⟩
   have dg:Wd ((Nat.gcd (lcmQ qs i).natAbs (q.den:Int).natAbs:Nat):Int) b:=⟨by
    refine zo (zar ?_) dq.den
    have hp:=q.den_nz
    exact Nat.gcd_le_right _ (by omega)⟩
   have hi64:=HB.out i hi
   clear hq hin hi nzd
   generalize lcmQ qs i=M at *
   generalize hwa:i * (b+1)=a at *
   have HI:=zc hi64
   have HWA:=zc hwa
   clear hwa hi64
   go_upto_region 5 with fail
   refine Code.nameW ?_; intro W hW; have hu:undef=Value.tuple #[]:=rfl
   refine wp_region_held_drew (S:=fun w'=>ButO W [w1.heap.size] w') (by kernel_rfl) ?_ (fun hHeld=>?_)
   ·exact zab
   (refine take_at (i:=1) (d:=some 14) (v:=?_) rfl rfl (by kernel_rfl) (by kernel_rfl) (by kernel_rfl) (fun _ _ _ h=>h) (Or.inl ⟨by rfl,?_⟩) (by assumption) ?_; rotate_left; (intro w hSw; (try dsimp only at hSw); go_simp); all_goals (try with_reducible rfl); try simp only [Act.put,zs0,zs1,zs2])
   (refine take_at (i:=4) (d:=some 17) (v:=?_) rfl rfl (by kernel_rfl) (by kernel_rfl) (by kernel_rfl) (fun _ _ _ h=>h) (Or.inl ⟨by rfl,?_⟩) (by assumption) ?_; rotate_left; (intro w hSw; (try dsimp only at hSw); go_simp); all_goals (try with_reducible rfl); try simp only [Act.put,zs0,zs1,zs2])
   refine wpAnyH_ready (rs:=[0,2,3]) (by kernel_rfl) (by simp) (AllReadyH.cons rfl (fun K hK=>?_) (AllReadyH.cons rfl (fun K hK=>?_) (AllReadyH.cons rfl (fun K hK=>?_) (AllReadyH.nil))))
   ·(go_simp; refine hK.out _ _ ?_ (fun hHeld2 => ?_); (try dsimp only); (exact zab); clear hK K hHeld; have hHeld := hHeld2; clear hHeld2; try simp only [Act.put, zs0, zs1, zs2])
    refine wpAnyH_ready (rs:=[2,3]) (by kernel_rfl) (by simp) (AllReadyH.cons rfl (fun K hK=>?_) (AllReadyH.cons rfl (fun K hK=>?_) (AllReadyH.nil)))
    ·(go_simp; ((first | (go_at_call 167; refine zf (zak) ?_; rintro e w1 ⟨s1, rfl, _, _⟩))); (try dsimp only); refine hK.out _ _ ?_ (fun hHeld2 => ?_); (try dsimp only); (exact zab); clear hK K hHeld; have hHeld := hHeld2; clear hHeld2; try simp only [Act.put, zs0, zs1, zs2])
     refine wpAnyH_ready (rs:=[3,5]) (by kernel_rfl) (by simp) (AllReadyH.cons rfl (fun K hK=>?_) (AllReadyH.cons rfl (fun K hK=>?_) (AllReadyH.nil)))
     ·(go_simp; refine hK.out _ _ ?_ (fun hHeld2 => ?_); (try dsimp only); (exact zab); clear hK K hHeld; have hHeld := hHeld2; clear hHeld2; try simp only [Act.put, zs0, zs1, zs2])
      refine wpAnyH_ready (rs:=[5]) (by kernel_rfl) (by simp) (AllReadyH.cons rfl (fun K hK=>?_) (AllReadyH.nil))
      (go_simp; ((first | (go_at_call 167; refine zf (zak) ?_; rintro e w1 ⟨s1,rfl,_,_⟩))); (try dsimp only); refine hK.out _ _ ?_ (fun hHeld2=>?_); (try dsimp only); (exact zab); clear hK K hHeld; have hHeld:=hHeld2; clear hHeld2; try simp only [Act.put,zs0,zs1,zs2])
      refine wpAnyH_ready (rs:=[6]) (by kernel_rfl) (by simp) (AllReadyH.cons rfl (fun K hK=>?_) (AllReadyH.nil))
      (go_simp; (go_at_call 162; refine zf (zaA (x:=M) (y:=(q.den:Int)) (by have:=HI.out; omega)) ?_; rintro e w5 ⟨s5,rfl,_,_⟩); (try dsimp only); refine hK.out _ _ ?_ (fun hHeld2=>?_); (try dsimp only); (exact zab); clear hK K hHeld; have hHeld:=hHeld2; clear hHeld2; try simp only [Act.put,zs0,zs1,zs2])
      refine wpAnyH_ready (rs:=[7]) (by kernel_rfl) (by simp) (AllReadyH.cons rfl (fun K hK=>?_) (AllReadyH.nil))
      (go_simp; (go_at_call 172; refine zf (zal (x:=(q.den:Int)) (y:=((Nat.gcd M.natAbs (q.den:Int).natAbs:Nat):Int)) (by have:=HI.out; unfold MaxW; omega)) ?_; rintro e w6 ⟨s6,rfl,_,_⟩); (try dsimp only); refine hK.out _ _ ?_ (fun hHeld2=>?_); (try dsimp only); (exact zab); clear hK K hHeld; have hHeld:=hHeld2; clear hHeld2; try simp only [Act.put,zs0,zs1,zs2])
      refine wpAnyH_ready (rs:=[8]) (by kernel_rfl) (by simp) (AllReadyH.cons rfl (fun K hK=>?_) (AllReadyH.nil))
      (go_simp; (go_at_call 168; refine zf (zah (x:=M) (y:=flr (q.den:Int) ((Nat.gcd M.natAbs (q.den:Int).natAbs:Nat):Int)) (by have:=HI.out; unfold MaxW; omega)) ?_; rintro e w7 ⟨s7,rfl,_,_⟩); (try dsimp only); refine hK.out _ _ ?_ (fun hHeld2=>?_); (try dsimp only); (exact zab); clear hK K hHeld; have hHeld:=hHeld2; clear hHeld2; try simp only [Act.put,zs0,zs1,zs2])
      refine wpAnyH_ready (rs:=[9]) (by kernel_rfl) (by simp) (AllReadyH.cons rfl (fun K hK=>?_) (AllReadyH.nil))
      (go_simp; refine hK.out _ _ ?_ (fun hHeld2=>?_); (try dsimp only); (exact zab); clear hK K hHeld; have hHeld:=hHeld2; clear hHeld2; try simp only [Act.put,zs0,zs1,zs2])
      refine wpAnyH_done (by kernel_rfl) ?_ _
      go_wp2_with fail
      go_roundw
      all_goals first | exact ⟨i+1,_,rfl,HIN.out,za,za,by rw [<- HX.out]; infer_instance,zaa⟩ | exact ⟨i+1,_,by rw [HADD.out],HIN.out,za,za,by rw [<- HX.out]; infer_instance,zaa⟩ | ((repeat apply Exists.intro); exact ⟨⟨i+1,_,rfl,HIN.out,za,za,by rw [<- HX.out]; infer_instance,zaa⟩,rfl⟩) | ((repeat apply Exists.intro); exact ⟨⟨i+1,s7,by first | rfl | simp,HIN.out,za,za,by rw [<- HX.out]; infer_instance,zaa⟩,rfl⟩) | (simp [intOf]; have:=HIN.out; omega) | trace_state
     ·(go_simp; ((first | (go_at_call 167; refine zf (zak) ?_; rintro e w1 ⟨s1, rfl, _, _⟩))); (try dsimp only); refine hK.out _ _ ?_ (fun hHeld2 => ?_); (try dsimp only); (exact zab); clear hK K hHeld; have hHeld := hHeld2; clear hHeld2; try simp only [Act.put, zs0, zs1, zs2])
      refine wpAnyH_ready (rs:=[3]) (by kernel_rfl) (by simp) (AllReadyH.cons rfl (fun K hK=>?_) (AllReadyH.nil))
      (go_simp; refine hK.out _ _ ?_ (fun hHeld2=>?_); (try dsimp only); (exact zab); clear hK K hHeld; have hHeld:=hHeld2; clear hHeld2; try simp only [Act.put,zs0,zs1,zs2])
      refine wpAnyH_ready (rs:=[6]) (by kernel_rfl) (by simp) (AllReadyH.cons rfl (fun K hK=>?_) (AllReadyH.nil))
      (go_simp; (go_at_call 162; refine zf (zaA (x:=M) (y:=(q.den:Int)) (by have:=HI.out; omega)) ?_; rintro e w5 ⟨s5,rfl,_,_⟩); (try dsimp only); refine hK.out _ _ ?_ (fun hHeld2=>?_); (try dsimp only); (exact zab); clear hK K hHeld; have hHeld:=hHeld2; clear hHeld2; try simp only [Act.put,zs0,zs1,zs2])
      refine wpAnyH_ready (rs:=[7]) (by kernel_rfl) (by simp) (AllReadyH.cons rfl (fun K hK=>?_) (AllReadyH.nil))
      (go_simp; (go_at_call 172; refine zf (zal (x:=(q.den:Int)) (y:=((Nat.gcd M.natAbs (q.den:Int).natAbs:Nat):Int)) (by have:=HI.out; unfold MaxW; omega)) ?_; rintro e w6 ⟨s6,rfl,_,_⟩); (try dsimp only); refine hK.out _ _ ?_ (fun hHeld2=>?_); (try dsimp only); (exact zab); clear hK K hHeld; have hHeld:=hHeld2; clear hHeld2; try simp only [Act.put,zs0,zs1,zs2])
      refine wpAnyH_ready (rs:=[8]) (by kernel_rfl) (by simp) (AllReadyH.cons rfl (fun K hK=>?_) (AllReadyH.nil))
      (go_simp; (go_at_call 168; refine zf (zah (x:=M) (y:=flr (q.den:Int) ((Nat.gcd M.natAbs (q.den:Int).natAbs:Nat):Int)) (by have:=HI.out; unfold MaxW; omega)) ?_; rintro e w7 ⟨s7,rfl,_,_⟩); (try dsimp only); refine hK.out _ _ ?_ (fun hHeld2=>?_); (try dsimp only); (exact zab); clear hK K hHeld; have hHeld:=hHeld2; clear hHeld2; try simp only [Act.put,zs0,zs1,zs2])
      refine wpAnyH_ready (rs:=[9]) (by kernel_rfl) (by simp) (AllReadyH.cons rfl (fun K hK=>?_) (AllReadyH.nil))
      (go_simp; refine hK.out _ _ ?_ (fun hHeld2=>?_); (try dsimp only); (exact zab); clear hK K hHeld; have hHeld:=hHeld2; clear hHeld2; try simp only [Act.put,zs0,zs1,zs2])
      refine wpAnyH_done (by kernel_rfl) ?_ _
      go_wp2_with fail
      go_roundw
      all_goals first | exact ⟨i+1,_,rfl,HIN.out,za,za,by rw [<- HX.out]; infer_instance,zaa⟩ | exact ⟨i+1,_,by rw [HADD.out],HIN.out,za,za,by rw [<- HX.out]; infer_instance,zaa⟩ | ((repeat apply Exists.intro); exact ⟨⟨i+1,_,rfl,HIN.out,za,za,by rw [<- HX.out]; infer_instance,zaa⟩,rfl⟩) | ((repeat apply Exists.intro); exact ⟨⟨i+1,s7,by first | rfl | simp,HIN.out,za,za,by rw [<- HX.out]; infer_instance,zaa⟩,rfl⟩) | (simp [intOf]; have:=HIN.out; omega) | trace_state
    ·(go_simp; refine hK.out _ _ ?_ (fun hHeld2 => ?_); (try dsimp only); (exact zab); clear hK K hHeld; have hHeld := hHeld2; clear hHeld2; try simp only [Act.put, zs0, zs1, zs2])
     refine wpAnyH_ready (rs:=[2]) (by kernel_rfl) (by simp) (AllReadyH.cons rfl (fun K hK=>?_) (AllReadyH.nil))
     (go_simp; ((first | (go_at_call 167; refine zf (zak) ?_; rintro e w1 ⟨s1,rfl,_,_⟩))); (try dsimp only); refine hK.out _ _ ?_ (fun hHeld2=>?_); (try dsimp only); (exact zab); clear hK K hHeld; have hHeld:=hHeld2; clear hHeld2; try simp only [Act.put,zs0,zs1,zs2])
     refine wpAnyH_ready (rs:=[5]) (by kernel_rfl) (by simp) (AllReadyH.cons rfl (fun K hK=>?_) (AllReadyH.nil))
     (go_simp; ((first | (go_at_call 167; refine zf (zak) ?_; rintro e w1 ⟨s1,rfl,_,_⟩))); (try dsimp only); refine hK.out _ _ ?_ (fun hHeld2=>?_); (try dsimp only); (exact zab); clear hK K hHeld; have hHeld:=hHeld2; clear hHeld2; try simp only [Act.put,zs0,zs1,zs2])
     refine wpAnyH_ready (rs:=[6]) (by kernel_rfl) (by simp) (AllReadyH.cons rfl (fun K hK=>?_) (AllReadyH.nil))
     (go_simp; (go_at_call 162; refine zf (zaA (x:=M) (y:=(q.den:Int)) (by have:=HI.out; omega)) ?_; rintro e w5 ⟨s5,rfl,_,_⟩); (try dsimp only); refine hK.out _ _ ?_ (fun hHeld2=>?_); (try dsimp only); (exact zab); clear hK K hHeld; have hHeld:=hHeld2; clear hHeld2; try simp only [Act.put,zs0,zs1,zs2])
     refine wpAnyH_ready (rs:=[7]) (by kernel_rfl) (by simp) (AllReadyH.cons rfl (fun K hK=>?_) (AllReadyH.nil))
     (go_simp; (go_at_call 172; refine zf (zal (x:=(q.den:Int)) (y:=((Nat.gcd M.natAbs (q.den:Int).natAbs:Nat):Int)) (by have:=HI.out; unfold MaxW; omega)) ?_; rintro e w6 ⟨s6,rfl,_,_⟩); (try dsimp only); refine hK.out _ _ ?_ (fun hHeld2=>?_); (try dsimp only); (exact zab); clear hK K hHeld; have hHeld:=hHeld2; clear hHeld2; try simp only [Act.put,zs0,zs1,zs2])
     refine wpAnyH_ready (rs:=[8]) (by kernel_rfl) (by simp) (AllReadyH.cons rfl (fun K hK=>?_) (AllReadyH.nil))
     (go_simp; (go_at_call 168; refine zf (zah (x:=M) (y:=flr (q.den:Int) ((Nat.gcd M.natAbs (q.den:Int).natAbs:Nat):Int)) (by have:=HI.out; unfold MaxW; omega)) ?_; rintro e w7 ⟨s7,rfl,_,_⟩); (try dsimp only); refine hK.out _ _ ?_ (fun hHeld2=>?_); (try dsimp only); (exact zab); clear hK K hHeld; have hHeld:=hHeld2; clear hHeld2; try simp only [Act.put,zs0,zs1,zs2])
     refine wpAnyH_ready (rs:=[9]) (by kernel_rfl) (by simp) (AllReadyH.cons rfl (fun K hK=>?_) (AllReadyH.nil))
     (go_simp; refine hK.out _ _ ?_ (fun hHeld2=>?_); (try dsimp only); (exact zab); clear hK K hHeld; have hHeld:=hHeld2; clear hHeld2; try simp only [Act.put,zs0,zs1,zs2])
     refine wpAnyH_done (by kernel_rfl) ?_ _
     go_wp2_with fail
     go_roundw
     all_goals first | exact ⟨i+1,_,rfl,HIN.out,za,za,by rw [<- HX.out]; infer_instance,zaa⟩ | exact ⟨i+1,_,by rw [HADD.out],HIN.out,za,za,by rw [<- HX.out]; infer_instance,zaa⟩ | ((repeat apply Exists.intro); exact ⟨⟨i+1,_,rfl,HIN.out,za,za,by rw [<- HX.out]; infer_instance,zaa⟩,rfl⟩) | ((repeat apply Exists.intro); exact ⟨⟨i+1,s7,by first | rfl | simp,HIN.out,za,za,by rw [<- HX.out]; infer_instance,zaa⟩,rfl⟩) | (simp [intOf]; have:=HIN.out; omega) | trace_state
   ·(go_simp; ((first | (go_at_call 167; refine zf (zak) ?_; rintro e w1 ⟨s1, rfl, _, _⟩))); (try dsimp only); refine hK.out _ _ ?_ (fun hHeld2 => ?_); (try dsimp only); (exact zab); clear hK K hHeld; have hHeld := hHeld2; clear hHeld2; try simp only [Act.put, zs0, zs1, zs2])
    refine wpAnyH_ready (rs:=[0,3,5]) (by kernel_rfl) (by simp) (AllReadyH.cons rfl (fun K hK=>?_) (AllReadyH.cons rfl (fun K hK=>?_) (AllReadyH.cons rfl (fun K hK=>?_) (AllReadyH.nil))))
    ·(go_simp; refine hK.out _ _ ?_ (fun hHeld2 => ?_); (try dsimp only); (exact zab); clear hK K hHeld; have hHeld := hHeld2; clear hHeld2; try simp only [Act.put, zs0, zs1, zs2])
     refine wpAnyH_ready (rs:=[3,5]) (by kernel_rfl) (by simp) (AllReadyH.cons rfl (fun K hK=>?_) (AllReadyH.cons rfl (fun K hK=>?_) (AllReadyH.nil)))
     ·(go_simp; refine hK.out _ _ ?_ (fun hHeld2 => ?_); (try dsimp only); (exact zab); clear hK K hHeld; have hHeld := hHeld2; clear hHeld2; try simp only [Act.put, zs0, zs1, zs2])
      refine wpAnyH_ready (rs:=[5]) (by kernel_rfl) (by simp) (AllReadyH.cons rfl (fun K hK=>?_) (AllReadyH.nil))
      (go_simp; ((first | (go_at_call 167; refine zf (zak) ?_; rintro e w1 ⟨s1,rfl,_,_⟩))); (try dsimp only); refine hK.out _ _ ?_ (fun hHeld2=>?_); (try dsimp only); (exact zab); clear hK K hHeld; have hHeld:=hHeld2; clear hHeld2; try simp only [Act.put,zs0,zs1,zs2])
      refine wpAnyH_ready (rs:=[6]) (by kernel_rfl) (by simp) (AllReadyH.cons rfl (fun K hK=>?_) (AllReadyH.nil))
      (go_simp; (go_at_call 162; refine zf (zaA (x:=M) (y:=(q.den:Int)) (by have:=HI.out; omega)) ?_; rintro e w5 ⟨s5,rfl,_,_⟩); (try dsimp only); refine hK.out _ _ ?_ (fun hHeld2=>?_); (try dsimp only); (exact zab); clear hK K hHeld; have hHeld:=hHeld2; clear hHeld2; try simp only [Act.put,zs0,zs1,zs2])
      refine wpAnyH_ready (rs:=[7]) (by kernel_rfl) (by simp) (AllReadyH.cons rfl (fun K hK=>?_) (AllReadyH.nil))
      (go_simp; (go_at_call 172; refine zf (zal (x:=(q.den:Int)) (y:=((Nat.gcd M.natAbs (q.den:Int).natAbs:Nat):Int)) (by have:=HI.out; unfold MaxW; omega)) ?_; rintro e w6 ⟨s6,rfl,_,_⟩); (try dsimp only); refine hK.out _ _ ?_ (fun hHeld2=>?_); (try dsimp only); (exact zab); clear hK K hHeld; have hHeld:=hHeld2; clear hHeld2; try simp only [Act.put,zs0,zs1,zs2])
      refine wpAnyH_ready (rs:=[8]) (by kernel_rfl) (by simp) (AllReadyH.cons rfl (fun K hK=>?_) (AllReadyH.nil))
      (go_simp; (go_at_call 168; refine zf (zah (x:=M) (y:=flr (q.den:Int) ((Nat.gcd M.natAbs (q.den:Int).natAbs:Nat):Int)) (by have:=HI.out; unfold MaxW; omega)) ?_; rintro e w7 ⟨s7,rfl,_,_⟩); (try dsimp only); refine hK.out _ _ ?_ (fun hHeld2=>?_); (try dsimp only); (exact zab); clear hK K hHeld; have hHeld:=hHeld2; clear hHeld2; try simp only [Act.put,zs0,zs1,zs2])
      refine wpAnyH_ready (rs:=[9]) (by kernel_rfl) (by simp) (AllReadyH.cons rfl (fun K hK=>?_) (AllReadyH.nil))
      (go_simp; refine hK.out _ _ ?_ (fun hHeld2=>?_); (try dsimp only); (exact zab); clear hK K hHeld; have hHeld:=hHeld2; clear hHeld2; try simp only [Act.put,zs0,zs1,zs2])
      refine wpAnyH_done (by kernel_rfl) ?_ _
      go_wp2_with fail
      go_roundw
      all_goals first | exact ⟨i+1,_,rfl,HIN.out,za,za,by rw [<- HX.out]; infer_instance,zaa⟩ | exact ⟨i+1,_,by rw [HADD.out],HIN.out,za,za,by rw [<- HX.out]; infer_instance,zaa⟩ | ((repeat apply Exists.intro); exact ⟨⟨i+1,_,rfl,HIN.out,za,za,by rw [<- HX.out]; infer_instance,zaa⟩,rfl⟩) | ((repeat apply Exists.intro); exact ⟨⟨i+1,s7,by first | rfl | simp,HIN.out,za,za,by rw [<- HX.out]; infer_instance,zaa⟩,rfl⟩) | (simp [intOf]; have:=HIN.out; omega) | trace_state
     ·(go_simp; ((first | (go_at_call 167; refine zf (zak) ?_; rintro e w1 ⟨s1, rfl, _, _⟩))); (try dsimp only); refine hK.out _ _ ?_ (fun hHeld2 => ?_); (try dsimp only); (exact zab); clear hK K hHeld; have hHeld := hHeld2; clear hHeld2; try simp only [Act.put, zs0, zs1, zs2])
      refine wpAnyH_ready (rs:=[3]) (by kernel_rfl) (by simp) (AllReadyH.cons rfl (fun K hK=>?_) (AllReadyH.nil))
      (go_simp; refine hK.out _ _ ?_ (fun hHeld2=>?_); (try dsimp only); (exact zab); clear hK K hHeld; have hHeld:=hHeld2; clear hHeld2; try simp only [Act.put,zs0,zs1,zs2])
      refine wpAnyH_ready (rs:=[6]) (by kernel_rfl) (by simp) (AllReadyH.cons rfl (fun K hK=>?_) (AllReadyH.nil))
      (go_simp; (go_at_call 162; refine zf (zaA (x:=M) (y:=(q.den:Int)) (by have:=HI.out; omega)) ?_; rintro e w5 ⟨s5,rfl,_,_⟩); (try dsimp only); refine hK.out _ _ ?_ (fun hHeld2=>?_); (try dsimp only); (exact zab); clear hK K hHeld; have hHeld:=hHeld2; clear hHeld2; try simp only [Act.put,zs0,zs1,zs2])
      refine wpAnyH_ready (rs:=[7]) (by kernel_rfl) (by simp) (AllReadyH.cons rfl (fun K hK=>?_) (AllReadyH.nil))
      (go_simp; (go_at_call 172; refine zf (zal (x:=(q.den:Int)) (y:=((Nat.gcd M.natAbs (q.den:Int).natAbs:Nat):Int)) (by have:=HI.out; unfold MaxW; omega)) ?_; rintro e w6 ⟨s6,rfl,_,_⟩); (try dsimp only); refine hK.out _ _ ?_ (fun hHeld2=>?_); (try dsimp only); (exact zab); clear hK K hHeld; have hHeld:=hHeld2; clear hHeld2; try simp only [Act.put,zs0,zs1,zs2])
      refine wpAnyH_ready (rs:=[8]) (by kernel_rfl) (by simp) (AllReadyH.cons rfl (fun K hK=>?_) (AllReadyH.nil))
      (go_simp; (go_at_call 168; refine zf (zah (x:=M) (y:=flr (q.den:Int) ((Nat.gcd M.natAbs (q.den:Int).natAbs:Nat):Int)) (by have:=HI.out; unfold MaxW; omega)) ?_; rintro e w7 ⟨s7,rfl,_,_⟩); (try dsimp only); refine hK.out _ _ ?_ (fun hHeld2=>?_); (try dsimp only); (exact zab); clear hK K hHeld; have hHeld:=hHeld2; clear hHeld2; try simp only [Act.put,zs0,zs1,zs2])
      refine wpAnyH_ready (rs:=[9]) (by kernel_rfl) (by simp) (AllReadyH.cons rfl (fun K hK=>?_) (AllReadyH.nil))
      (go_simp; refine hK.out _ _ ?_ (fun hHeld2=>?_); (try dsimp only); (exact zab); clear hK K hHeld; have hHeld:=hHeld2; clear hHeld2; try simp only [Act.put,zs0,zs1,zs2])
      refine wpAnyH_done (by kernel_rfl) ?_ _
      go_wp2_with fail
      go_roundw
      all_goals first | exact ⟨i+1,_,rfl,HIN.out,za,za,by rw [<- HX.out]; infer_instance,zaa⟩ | exact ⟨i+1,_,by rw [HADD.out],HIN.out,za,za,by rw [<- HX.out]; infer_instance,zaa⟩ | ((repeat apply Exists.intro); exact ⟨⟨i+1,_,rfl,HIN.out,za,za,by rw [<- HX.out]; infer_instance,zaa⟩,rfl⟩) | ((repeat apply Exists.intro); exact ⟨⟨i+1,s7,by first | rfl | simp,HIN.out,za,za,by rw [<- HX.out]; infer_instance,zaa⟩,rfl⟩) | (simp [intOf]; have:=HIN.out; omega) | trace_state
    ·(go_simp; refine hK.out _ _ ?_ (fun hHeld2 => ?_); (try dsimp only); (exact zab); clear hK K hHeld; have hHeld := hHeld2; clear hHeld2; try simp only [Act.put, zs0, zs1, zs2])
     refine wpAnyH_ready (rs:=[0,5]) (by kernel_rfl) (by simp) (AllReadyH.cons rfl (fun K hK=>?_) (AllReadyH.cons rfl (fun K hK=>?_) (AllReadyH.nil)))
     ·(go_simp; refine hK.out _ _ ?_ (fun hHeld2 => ?_); (try dsimp only); (exact zab); clear hK K hHeld; have hHeld := hHeld2; clear hHeld2; try simp only [Act.put, zs0, zs1, zs2])
      refine wpAnyH_ready (rs:=[5]) (by kernel_rfl) (by simp) (AllReadyH.cons rfl (fun K hK=>?_) (AllReadyH.nil))
      (go_simp; ((first | (go_at_call 167; refine zf (zak) ?_; rintro e w1 ⟨s1,rfl,_,_⟩))); (try dsimp only); refine hK.out _ _ ?_ (fun hHeld2=>?_); (try dsimp only); (exact zab); clear hK K hHeld; have hHeld:=hHeld2; clear hHeld2; try simp only [Act.put,zs0,zs1,zs2])
      refine wpAnyH_ready (rs:=[6]) (by kernel_rfl) (by simp) (AllReadyH.cons rfl (fun K hK=>?_) (AllReadyH.nil))
      (go_simp; (go_at_call 162; refine zf (zaA (x:=M) (y:=(q.den:Int)) (by have:=HI.out; omega)) ?_; rintro e w5 ⟨s5,rfl,_,_⟩); (try dsimp only); refine hK.out _ _ ?_ (fun hHeld2=>?_); (try dsimp only); (exact zab); clear hK K hHeld; have hHeld:=hHeld2; clear hHeld2; try simp only [Act.put,zs0,zs1,zs2])
      refine wpAnyH_ready (rs:=[7]) (by kernel_rfl) (by simp) (AllReadyH.cons rfl (fun K hK=>?_) (AllReadyH.nil))
      (go_simp; (go_at_call 172; refine zf (zal (x:=(q.den:Int)) (y:=((Nat.gcd M.natAbs (q.den:Int).natAbs:Nat):Int)) (by have:=HI.out; unfold MaxW; omega)) ?_; rintro e w6 ⟨s6,rfl,_,_⟩); (try dsimp only); refine hK.out _ _ ?_ (fun hHeld2=>?_); (try dsimp only); (exact zab); clear hK K hHeld; have hHeld:=hHeld2; clear hHeld2; try simp only [Act.put,zs0,zs1,zs2])
      refine wpAnyH_ready (rs:=[8]) (by kernel_rfl) (by simp) (AllReadyH.cons rfl (fun K hK=>?_) (AllReadyH.nil))
      (go_simp; (go_at_call 168; refine zf (zah (x:=M) (y:=flr (q.den:Int) ((Nat.gcd M.natAbs (q.den:Int).natAbs:Nat):Int)) (by have:=HI.out; unfold MaxW; omega)) ?_; rintro e w7 ⟨s7,rfl,_,_⟩); (try dsimp only); refine hK.out _ _ ?_ (fun hHeld2=>?_); (try dsimp only); (exact zab); clear hK K hHeld; have hHeld:=hHeld2; clear hHeld2; try simp only [Act.put,zs0,zs1,zs2])
      refine wpAnyH_ready (rs:=[9]) (by kernel_rfl) (by simp) (AllReadyH.cons rfl (fun K hK=>?_) (AllReadyH.nil))
      (go_simp; refine hK.out _ _ ?_ (fun hHeld2=>?_); (try dsimp only); (exact zab); clear hK K hHeld; have hHeld:=hHeld2; clear hHeld2; try simp only [Act.put,zs0,zs1,zs2])
      refine wpAnyH_done (by kernel_rfl) ?_ _
      go_wp2_with fail
      go_roundw
      all_goals first | exact ⟨i+1,_,rfl,HIN.out,za,za,by rw [<- HX.out]; infer_instance,zaa⟩ | exact ⟨i+1,_,by rw [HADD.out],HIN.out,za,za,by rw [<- HX.out]; infer_instance,zaa⟩ | ((repeat apply Exists.intro); exact ⟨⟨i+1,_,rfl,HIN.out,za,za,by rw [<- HX.out]; infer_instance,zaa⟩,rfl⟩) | ((repeat apply Exists.intro); exact ⟨⟨i+1,s7,by first | rfl | simp,HIN.out,za,za,by rw [<- HX.out]; infer_instance,zaa⟩,rfl⟩) | (simp [intOf]; have:=HIN.out; omega) | trace_state
     ·(go_simp; ((first | (go_at_call 167; refine zf (zak) ?_; rintro e w1 ⟨s1, rfl, _, _⟩))); (try dsimp only); refine hK.out _ _ ?_ (fun hHeld2 => ?_); (try dsimp only); (exact zab); clear hK K hHeld; have hHeld := hHeld2; clear hHeld2; try simp only [Act.put, zs0, zs1, zs2])
      refine wpAnyH_ready (rs:=[0,6]) (by kernel_rfl) (by simp) (AllReadyH.cons rfl (fun K hK=>?_) (AllReadyH.cons rfl (fun K hK=>?_) (AllReadyH.nil)))
      ·(go_simp; refine hK.out _ _ ?_ (fun hHeld2 => ?_); (try dsimp only); (exact zab); clear hK K hHeld; have hHeld := hHeld2; clear hHeld2; try simp only [Act.put, zs0, zs1, zs2])
       refine wpAnyH_ready (rs:=[6]) (by kernel_rfl) (by simp) (AllReadyH.cons rfl (fun K hK=>?_) (AllReadyH.nil))
       (go_simp; (go_at_call 162; refine zf (zaA (x:=M) (y:=(q.den:Int)) (by have:=HI.out; omega)) ?_; rintro e w5 ⟨s5,rfl,_,_⟩); (try dsimp only); refine hK.out _ _ ?_ (fun hHeld2=>?_); (try dsimp only); (exact zab); clear hK K hHeld; have hHeld:=hHeld2; clear hHeld2; try simp only [Act.put,zs0,zs1,zs2])
       refine wpAnyH_ready (rs:=[7]) (by kernel_rfl) (by simp) (AllReadyH.cons rfl (fun K hK=>?_) (AllReadyH.nil))
       (go_simp; (go_at_call 172; refine zf (zal (x:=(q.den:Int)) (y:=((Nat.gcd M.natAbs (q.den:Int).natAbs:Nat):Int)) (by have:=HI.out; unfold MaxW; omega)) ?_; rintro e w6 ⟨s6,rfl,_,_⟩); (try dsimp only); refine hK.out _ _ ?_ (fun hHeld2=>?_); (try dsimp only); (exact zab); clear hK K hHeld; have hHeld:=hHeld2; clear hHeld2; try simp only [Act.put,zs0,zs1,zs2])
       refine wpAnyH_ready (rs:=[8]) (by kernel_rfl) (by simp) (AllReadyH.cons rfl (fun K hK=>?_) (AllReadyH.nil))
       (go_simp; (go_at_call 168; refine zf (zah (x:=M) (y:=flr (q.den:Int) ((Nat.gcd M.natAbs (q.den:Int).natAbs:Nat):Int)) (by have:=HI.out; unfold MaxW; omega)) ?_; rintro e w7 ⟨s7,rfl,_,_⟩); (try dsimp only); refine hK.out _ _ ?_ (fun hHeld2=>?_); (try dsimp only); (exact zab); clear hK K hHeld; have hHeld:=hHeld2; clear hHeld2; try simp only [Act.put,zs0,zs1,zs2])
       refine wpAnyH_ready (rs:=[9]) (by kernel_rfl) (by simp) (AllReadyH.cons rfl (fun K hK=>?_) (AllReadyH.nil))
       (go_simp; refine hK.out _ _ ?_ (fun hHeld2=>?_); (try dsimp only); (exact zab); clear hK K hHeld; have hHeld:=hHeld2; clear hHeld2; try simp only [Act.put,zs0,zs1,zs2])
       refine wpAnyH_done (by kernel_rfl) ?_ _
       go_wp2_with fail
       go_roundw
       all_goals first | exact ⟨i+1,_,rfl,HIN.out,za,za,by rw [<- HX.out]; infer_instance,zaa⟩ | exact ⟨i+1,_,by rw [HADD.out],HIN.out,za,za,by rw [<- HX.out]; infer_instance,zaa⟩ | ((repeat apply Exists.intro); exact ⟨⟨i+1,_,rfl,HIN.out,za,za,by rw [<- HX.out]; infer_instance,zaa⟩,rfl⟩) | ((repeat apply Exists.intro); exact ⟨⟨i+1,s7,by first | rfl | simp,HIN.out,za,za,by rw [<- HX.out]; infer_instance,zaa⟩,rfl⟩) | (simp [intOf]; have:=HIN.out; omega) | trace_state
      ·(go_simp; (go_at_call 162; refine zf (zaA (x := M) (y := (q.den : Int)) (by have := HI.out; omega)) ?_; rintro e w5 ⟨s5, rfl, _, _⟩); (try dsimp only); refine hK.out _ _ ?_ (fun hHeld2 => ?_); (try dsimp only); (exact zab); clear hK K hHeld; have hHeld := hHeld2; clear hHeld2; try simp only [Act.put, zs0, zs1, zs2])
       refine wpAnyH_ready (rs:=[0,7]) (by kernel_rfl) (by simp) (AllReadyH.cons rfl (fun K hK=>?_) (AllReadyH.cons rfl (fun K hK=>?_) (AllReadyH.nil)))
       ·(go_simp; refine hK.out _ _ ?_ (fun hHeld2 => ?_); (try dsimp only); (exact zab); clear hK K hHeld; have hHeld := hHeld2; clear hHeld2; try simp only [Act.put, zs0, zs1, zs2])
        refine wpAnyH_ready (rs:=[7]) (by kernel_rfl) (by simp) (AllReadyH.cons rfl (fun K hK=>?_) (AllReadyH.nil))
        (go_simp; (go_at_call 172; refine zf (zal (x:=(q.den:Int)) (y:=((Nat.gcd M.natAbs (q.den:Int).natAbs:Nat):Int)) (by have:=HI.out; unfold MaxW; omega)) ?_; rintro e w6 ⟨s6,rfl,_,_⟩); (try dsimp only); refine hK.out _ _ ?_ (fun hHeld2=>?_); (try dsimp only); (exact zab); clear hK K hHeld; have hHeld:=hHeld2; clear hHeld2; try simp only [Act.put,zs0,zs1,zs2])
        refine wpAnyH_ready (rs:=[8]) (by kernel_rfl) (by simp) (AllReadyH.cons rfl (fun K hK=>?_) (AllReadyH.nil))
        (go_simp; (go_at_call 168; refine zf (zah (x:=M) (y:=flr (q.den:Int) ((Nat.gcd M.natAbs (q.den:Int).natAbs:Nat):Int)) (by have:=HI.out; unfold MaxW; omega)) ?_; rintro e w7 ⟨s7,rfl,_,_⟩); (try dsimp only); refine hK.out _ _ ?_ (fun hHeld2=>?_); (try dsimp only); (exact zab); clear hK K hHeld; have hHeld:=hHeld2; clear hHeld2; try simp only [Act.put,zs0,zs1,zs2])
        refine wpAnyH_ready (rs:=[9]) (by kernel_rfl) (by simp) (AllReadyH.cons rfl (fun K hK=>?_) (AllReadyH.nil))
        (go_simp; refine hK.out _ _ ?_ (fun hHeld2=>?_); (try dsimp only); (exact zab); clear hK K hHeld; have hHeld:=hHeld2; clear hHeld2; try simp only [Act.put,zs0,zs1,zs2])
        refine wpAnyH_done (by kernel_rfl) ?_ _
        go_wp2_with fail
        go_roundw
        all_goals first | exact ⟨i+1,_,rfl,HIN.out,za,za,by rw [<- HX.out]; infer_instance,zaa⟩ | exact ⟨i+1,_,by rw [HADD.out],HIN.out,za,za,by rw [<- HX.out]; infer_instance,zaa⟩ | ((repeat apply Exists.intro); exact ⟨⟨i+1,_,rfl,HIN.out,za,za,by rw [<- HX.out]; infer_instance,zaa⟩,rfl⟩) | ((repeat apply Exists.intro); exact ⟨⟨i+1,s7,by first | rfl | simp,HIN.out,za,za,by rw [<- HX.out]; infer_instance,zaa⟩,rfl⟩) | (simp [intOf]; have:=HIN.out; omega) | trace_state
       ·(go_simp; (go_at_call 172; refine zf (zal (x := (q.den : Int)) (y := ((Nat.gcd M.natAbs (q.den : Int).natAbs : Nat) : Int)) (by have := HI.out; unfold MaxW; omega)) ?_; rintro e w6 ⟨s6, rfl, _, _⟩); (try dsimp only); refine hK.out _ _ ?_ (fun hHeld2 => ?_); (try dsimp only); (exact zab); clear hK K hHeld; have hHeld := hHeld2; clear hHeld2; try simp only [Act.put, zs0, zs1, zs2])
        refine wpAnyH_ready (rs:=[0]) (by kernel_rfl) (by simp) (AllReadyH.cons rfl (fun K hK=>?_) (AllReadyH.nil))
        (go_simp; refine hK.out _ _ ?_ (fun hHeld2=>?_); (try dsimp only); (exact zab); clear hK K hHeld; have hHeld:=hHeld2; clear hHeld2; try simp only [Act.put,zs0,zs1,zs2])
        refine wpAnyH_ready (rs:=[8]) (by kernel_rfl) (by simp) (AllReadyH.cons rfl (fun K hK=>?_) (AllReadyH.nil))
        (go_simp; (go_at_call 168; refine zf (zah (x:=M) (y:=flr (q.den:Int) ((Nat.gcd M.natAbs (q.den:Int).natAbs:Nat):Int)) (by have:=HI.out; unfold MaxW; omega)) ?_; rintro e w7 ⟨s7,rfl,_,_⟩); (try dsimp only); refine hK.out _ _ ?_ (fun hHeld2=>?_); (try dsimp only); (exact zab); clear hK K hHeld; have hHeld:=hHeld2; clear hHeld2; try simp only [Act.put,zs0,zs1,zs2])
        refine wpAnyH_ready (rs:=[9]) (by kernel_rfl) (by simp) (AllReadyH.cons rfl (fun K hK=>?_) (AllReadyH.nil))
        (go_simp; refine hK.out _ _ ?_ (fun hHeld2=>?_); (try dsimp only); (exact zab); clear hK K hHeld; have hHeld:=hHeld2; clear hHeld2; try simp only [Act.put,zs0,zs1,zs2])
        refine wpAnyH_done (by kernel_rfl) ?_ _
        go_wp2_with fail
        go_roundw
        all_goals first | exact ⟨i+1,_,rfl,HIN.out,za,za,by rw [<- HX.out]; infer_instance,zaa⟩ | exact ⟨i+1,_,by rw [HADD.out],HIN.out,za,za,by rw [<- HX.out]; infer_instance,zaa⟩ | ((repeat apply Exists.intro); exact ⟨⟨i+1,_,rfl,HIN.out,za,za,by rw [<- HX.out]; infer_instance,zaa⟩,rfl⟩) | ((repeat apply Exists.intro); exact ⟨⟨i+1,s7,by first | rfl | simp,HIN.out,za,za,by rw [<- HX.out]; infer_instance,zaa⟩,rfl⟩) | (simp [intOf]; have:=HIN.out; omega) | trace_state
    ·(go_simp; ((first | (go_at_call 167; refine zf (zak) ?_; rintro e w1 ⟨s1, rfl, _, _⟩))); (try dsimp only); refine hK.out _ _ ?_ (fun hHeld2 => ?_); (try dsimp only); (exact zab); clear hK K hHeld; have hHeld := hHeld2; clear hHeld2; try simp only [Act.put, zs0, zs1, zs2])
     refine wpAnyH_ready (rs:=[0,3]) (by kernel_rfl) (by simp) (AllReadyH.cons rfl (fun K hK=>?_) (AllReadyH.cons rfl (fun K hK=>?_) (AllReadyH.nil)))
     ·(go_simp; refine hK.out _ _ ?_ (fun hHeld2 => ?_); (try dsimp only); (exact zab); clear hK K hHeld; have hHeld := hHeld2; clear hHeld2; try simp only [Act.put, zs0, zs1, zs2])
      refine wpAnyH_ready (rs:=[3]) (by kernel_rfl) (by simp) (AllReadyH.cons rfl (fun K hK=>?_) (AllReadyH.nil))
      (go_simp; refine hK.out _ _ ?_ (fun hHeld2=>?_); (try dsimp only); (exact zab); clear hK K hHeld; have hHeld:=hHeld2; clear hHeld2; try simp only [Act.put,zs0,zs1,zs2])
      refine wpAnyH_ready (rs:=[6]) (by kernel_rfl) (by simp) (AllReadyH.cons rfl (fun K hK=>?_) (AllReadyH.nil))
      (go_simp; (go_at_call 162; refine zf (zaA (x:=M) (y:=(q.den:Int)) (by have:=HI.out; omega)) ?_; rintro e w5 ⟨s5,rfl,_,_⟩); (try dsimp only); refine hK.out _ _ ?_ (fun hHeld2=>?_); (try dsimp only); (exact zab); clear hK K hHeld; have hHeld:=hHeld2; clear hHeld2; try simp only [Act.put,zs0,zs1,zs2])
      refine wpAnyH_ready (rs:=[7]) (by kernel_rfl) (by simp) (AllReadyH.cons rfl (fun K hK=>?_) (AllReadyH.nil))
      (go_simp; (go_at_call 172; refine zf (zal (x:=(q.den:Int)) (y:=((Nat.gcd M.natAbs (q.den:Int).natAbs:Nat):Int)) (by have:=HI.out; unfold MaxW; omega)) ?_; rintro e w6 ⟨s6,rfl,_,_⟩); (try dsimp only); refine hK.out _ _ ?_ (fun hHeld2=>?_); (try dsimp only); (exact zab); clear hK K hHeld; have hHeld:=hHeld2; clear hHeld2; try simp only [Act.put,zs0,zs1,zs2])
      refine wpAnyH_ready (rs:=[8]) (by kernel_rfl) (by simp) (AllReadyH.cons rfl (fun K hK=>?_) (AllReadyH.nil))
      (go_simp; (go_at_call 168; refine zf (zah (x:=M) (y:=flr (q.den:Int) ((Nat.gcd M.natAbs (q.den:Int).natAbs:Nat):Int)) (by have:=HI.out; unfold MaxW; omega)) ?_; rintro e w7 ⟨s7,rfl,_,_⟩); (try dsimp only); refine hK.out _ _ ?_ (fun hHeld2=>?_); (try dsimp only); (exact zab); clear hK K hHeld; have hHeld:=hHeld2; clear hHeld2; try simp only [Act.put,zs0,zs1,zs2])
      refine wpAnyH_ready (rs:=[9]) (by kernel_rfl) (by simp) (AllReadyH.cons rfl (fun K hK=>?_) (AllReadyH.nil))
      (go_simp; refine hK.out _ _ ?_ (fun hHeld2=>?_); (try dsimp only); (exact zab); clear hK K hHeld; have hHeld:=hHeld2; clear hHeld2; try simp only [Act.put,zs0,zs1,zs2])
      refine wpAnyH_done (by kernel_rfl) ?_ _
      go_wp2_with fail
      go_roundw
      all_goals first | exact ⟨i+1,_,rfl,HIN.out,za,za,by rw [<- HX.out]; infer_instance,zaa⟩ | exact ⟨i+1,_,by rw [HADD.out],HIN.out,za,za,by rw [<- HX.out]; infer_instance,zaa⟩ | ((repeat apply Exists.intro); exact ⟨⟨i+1,_,rfl,HIN.out,za,za,by rw [<- HX.out]; infer_instance,zaa⟩,rfl⟩) | ((repeat apply Exists.intro); exact ⟨⟨i+1,s7,by first | rfl | simp,HIN.out,za,za,by rw [<- HX.out]; infer_instance,zaa⟩,rfl⟩) | (simp [intOf]; have:=HIN.out; omega) | trace_state
     ·(go_simp; refine hK.out _ _ ?_ (fun hHeld2 => ?_); (try dsimp only); (exact zab); clear hK K hHeld; have hHeld := hHeld2; clear hHeld2; try simp only [Act.put, zs0, zs1, zs2])
      refine wpAnyH_ready (rs:=[0,6]) (by kernel_rfl) (by simp) (AllReadyH.cons rfl (fun K hK=>?_) (AllReadyH.cons rfl (fun K hK=>?_) (AllReadyH.nil)))
      ·(go_simp; refine hK.out _ _ ?_ (fun hHeld2 => ?_); (try dsimp only); (exact zab); clear hK K hHeld; have hHeld := hHeld2; clear hHeld2; try simp only [Act.put, zs0, zs1, zs2])
       refine wpAnyH_ready (rs:=[6]) (by kernel_rfl) (by simp) (AllReadyH.cons rfl (fun K hK=>?_) (AllReadyH.nil))
       (go_simp; (go_at_call 162; refine zf (zaA (x:=M) (y:=(q.den:Int)) (by have:=HI.out; omega)) ?_; rintro e w5 ⟨s5,rfl,_,_⟩); (try dsimp only); refine hK.out _ _ ?_ (fun hHeld2=>?_); (try dsimp only); (exact zab); clear hK K hHeld; have hHeld:=hHeld2; clear hHeld2; try simp only [Act.put,zs0,zs1,zs2])
       refine wpAnyH_ready (rs:=[7]) (by kernel_rfl) (by simp) (AllReadyH.cons rfl (fun K hK=>?_) (AllReadyH.nil))
       (go_simp; (go_at_call 172; refine zf (zal (x:=(q.den:Int)) (y:=((Nat.gcd M.natAbs (q.den:Int).natAbs:Nat):Int)) (by have:=HI.out; unfold MaxW; omega)) ?_; rintro e w6 ⟨s6,rfl,_,_⟩); (try dsimp only); refine hK.out _ _ ?_ (fun hHeld2=>?_); (try dsimp only); (exact zab); clear hK K hHeld; have hHeld:=hHeld2; clear hHeld2; try simp only [Act.put,zs0,zs1,zs2])
       refine wpAnyH_ready (rs:=[8]) (by kernel_rfl) (by simp) (AllReadyH.cons rfl (fun K hK=>?_) (AllReadyH.nil))
       (go_simp; (go_at_call 168; refine zf (zah (x:=M) (y:=flr (q.den:Int) ((Nat.gcd M.natAbs (q.den:Int).natAbs:Nat):Int)) (by have:=HI.out; unfold MaxW; omega)) ?_; rintro e w7 ⟨s7,rfl,_,_⟩); (try dsimp only); refine hK.out _ _ ?_ (fun hHeld2=>?_); (try dsimp only); (exact zab); clear hK K hHeld; have hHeld:=hHeld2; clear hHeld2; try simp only [Act.put,zs0,zs1,zs2])
       refine wpAnyH_ready (rs:=[9]) (by kernel_rfl) (by simp) (AllReadyH.cons rfl (fun K hK=>?_) (AllReadyH.nil))
       (go_simp; refine hK.out _ _ ?_ (fun hHeld2=>?_); (try dsimp only); (exact zab); clear hK K hHeld; have hHeld:=hHeld2; clear hHeld2; try simp only [Act.put,zs0,zs1,zs2])
       refine wpAnyH_done (by kernel_rfl) ?_ _
       go_wp2_with fail
       go_roundw
       all_goals first | exact ⟨i+1,_,rfl,HIN.out,za,za,by rw [<- HX.out]; infer_instance,zaa⟩ | exact ⟨i+1,_,by rw [HADD.out],HIN.out,za,za,by rw [<- HX.out]; infer_instance,zaa⟩ | ((repeat apply Exists.intro); exact ⟨⟨i+1,_,rfl,HIN.out,za,za,by rw [<- HX.out]; infer_instance,zaa⟩,rfl⟩) | ((repeat apply Exists.intro); exact ⟨⟨i+1,s7,by first | rfl | simp,HIN.out,za,za,by rw [<- HX.out]; infer_instance,zaa⟩,rfl⟩) | (simp [intOf]; have:=HIN.out; omega) | trace_state
      ·(go_simp; (go_at_call 162; refine zf (zaA (x := M) (y := (q.den : Int)) (by have := HI.out; omega)) ?_; rintro e w5 ⟨s5, rfl, _, _⟩); (try dsimp only); refine hK.out _ _ ?_ (fun hHeld2 => ?_); (try dsimp only); (exact zab); clear hK K hHeld; have hHeld := hHeld2; clear hHeld2; try simp only [Act.put, zs0, zs1, zs2])
       refine wpAnyH_ready (rs:=[0,7]) (by kernel_rfl) (by simp) (AllReadyH.cons rfl (fun K hK=>?_) (AllReadyH.cons rfl (fun K hK=>?_) (AllReadyH.nil)))
       ·(go_simp; refine hK.out _ _ ?_ (fun hHeld2 => ?_); (try dsimp only); (exact zab); clear hK K hHeld; have hHeld := hHeld2; clear hHeld2; try simp only [Act.put, zs0, zs1, zs2])
        refine wpAnyH_ready (rs:=[7]) (by kernel_rfl) (by simp) (AllReadyH.cons rfl (fun K hK=>?_) (AllReadyH.nil))
        (go_simp; (go_at_call 172; refine zf (zal (x:=(q.den:Int)) (y:=((Nat.gcd M.natAbs (q.den:Int).natAbs:Nat):Int)) (by have:=HI.out; unfold MaxW; omega)) ?_; rintro e w6 ⟨s6,rfl,_,_⟩); (try dsimp only); refine hK.out _ _ ?_ (fun hHeld2=>?_); (try dsimp only); (exact zab); clear hK K hHeld; have hHeld:=hHeld2; clear hHeld2; try simp only [Act.put,zs0,zs1,zs2])
        refine wpAnyH_ready (rs:=[8]) (by kernel_rfl) (by simp) (AllReadyH.cons rfl (fun K hK=>?_) (AllReadyH.nil))
        (go_simp; (go_at_call 168; refine zf (zah (x:=M) (y:=flr (q.den:Int) ((Nat.gcd M.natAbs (q.den:Int).natAbs:Nat):Int)) (by have:=HI.out; unfold MaxW; omega)) ?_; rintro e w7 ⟨s7,rfl,_,_⟩); (try dsimp only); refine hK.out _ _ ?_ (fun hHeld2=>?_); (try dsimp only); (exact zab); clear hK K hHeld; have hHeld:=hHeld2; clear hHeld2; try simp only [Act.put,zs0,zs1,zs2])
        refine wpAnyH_ready (rs:=[9]) (by kernel_rfl) (by simp) (AllReadyH.cons rfl (fun K hK=>?_) (AllReadyH.nil))
        (go_simp; refine hK.out _ _ ?_ (fun hHeld2=>?_); (try dsimp only); (exact zab); clear hK K hHeld; have hHeld:=hHeld2; clear hHeld2; try simp only [Act.put,zs0,zs1,zs2])
        refine wpAnyH_done (by kernel_rfl) ?_ _
        go_wp2_with fail
        go_roundw
        all_goals first | exact ⟨i+1,_,rfl,HIN.out,za,za,by rw [<- HX.out]; infer_instance,zaa⟩ | exact ⟨i+1,_,by rw [HADD.out],HIN.out,za,za,by rw [<- HX.out]; infer_instance,zaa⟩ | ((repeat apply Exists.intro); exact ⟨⟨i+1,_,rfl,HIN.out,za,za,by rw [<- HX.out]; infer_instance,zaa⟩,rfl⟩) | ((repeat apply Exists.intro); exact ⟨⟨i+1,s7,by first | rfl | simp,HIN.out,za,za,by rw [<- HX.out]; infer_instance,zaa⟩,rfl⟩) | (simp [intOf]; have:=HIN.out; omega) | trace_state
       ·(go_simp; (go_at_call 172; refine zf (zal (x := (q.den : Int)) (y := ((Nat.gcd M.natAbs (q.den : Int).natAbs : Nat) : Int)) (by have := HI.out; unfold MaxW; omega)) ?_; rintro e w6 ⟨s6, rfl, _, _⟩); (try dsimp only); refine hK.out _ _ ?_ (fun hHeld2 => ?_); (try dsimp only); (exact zab); clear hK K hHeld; have hHeld := hHeld2; clear hHeld2; try simp only [Act.put, zs0, zs1, zs2])
        refine wpAnyH_ready (rs:=[0]) (by kernel_rfl) (by simp) (AllReadyH.cons rfl (fun K hK=>?_) (AllReadyH.nil))
        (go_simp; refine hK.out _ _ ?_ (fun hHeld2=>?_); (try dsimp only); (exact zab); clear hK K hHeld; have hHeld:=hHeld2; clear hHeld2; try simp only [Act.put,zs0,zs1,zs2])
        refine wpAnyH_ready (rs:=[8]) (by kernel_rfl) (by simp) (AllReadyH.cons rfl (fun K hK=>?_) (AllReadyH.nil))
        (go_simp; (go_at_call 168; refine zf (zah (x:=M) (y:=flr (q.den:Int) ((Nat.gcd M.natAbs (q.den:Int).natAbs:Nat):Int)) (by have:=HI.out; unfold MaxW; omega)) ?_; rintro e w7 ⟨s7,rfl,_,_⟩); (try dsimp only); refine hK.out _ _ ?_ (fun hHeld2=>?_); (try dsimp only); (exact zab); clear hK K hHeld; have hHeld:=hHeld2; clear hHeld2; try simp only [Act.put,zs0,zs1,zs2])
        refine wpAnyH_ready (rs:=[9]) (by kernel_rfl) (by simp) (AllReadyH.cons rfl (fun K hK=>?_) (AllReadyH.nil))
        (go_simp; refine hK.out _ _ ?_ (fun hHeld2=>?_); (try dsimp only); (exact zab); clear hK K hHeld; have hHeld:=hHeld2; clear hHeld2; try simp only [Act.put,zs0,zs1,zs2])
        refine wpAnyH_done (by kernel_rfl) ?_ _
        go_wp2_with fail
        go_roundw
        all_goals first | exact ⟨i+1,_,rfl,HIN.out,za,za,by rw [<- HX.out]; infer_instance,zaa⟩ | exact ⟨i+1,_,by rw [HADD.out],HIN.out,za,za,by rw [<- HX.out]; infer_instance,zaa⟩ | ((repeat apply Exists.intro); exact ⟨⟨i+1,_,rfl,HIN.out,za,za,by rw [<- HX.out]; infer_instance,zaa⟩,rfl⟩) | ((repeat apply Exists.intro); exact ⟨⟨i+1,s7,by first | rfl | simp,HIN.out,za,za,by rw [<- HX.out]; infer_instance,zaa⟩,rfl⟩) | (simp [intOf]; have:=HIN.out; omega) | trace_state
   ·(go_simp; refine hK.out _ _ ?_ (fun hHeld2 => ?_); (try dsimp only); (exact zab); clear hK K hHeld; have hHeld := hHeld2; clear hHeld2; try simp only [Act.put, zs0, zs1, zs2])
    refine wpAnyH_ready (rs:=[0,2]) (by kernel_rfl) (by simp) (AllReadyH.cons rfl (fun K hK=>?_) (AllReadyH.cons rfl (fun K hK=>?_) (AllReadyH.nil)))
    ·(go_simp; refine hK.out _ _ ?_ (fun hHeld2 => ?_); (try dsimp only); (exact zab); clear hK K hHeld; have hHeld := hHeld2; clear hHeld2; try simp only [Act.put, zs0, zs1, zs2])
     refine wpAnyH_ready (rs:=[2]) (by kernel_rfl) (by simp) (AllReadyH.cons rfl (fun K hK=>?_) (AllReadyH.nil))
     (go_simp; ((first | (go_at_call 167; refine zf (zak) ?_; rintro e w1 ⟨s1,rfl,_,_⟩))); (try dsimp only); refine hK.out _ _ ?_ (fun hHeld2=>?_); (try dsimp only); (exact zab); clear hK K hHeld; have hHeld:=hHeld2; clear hHeld2; try simp only [Act.put,zs0,zs1,zs2])
     refine wpAnyH_ready (rs:=[5]) (by kernel_rfl) (by simp) (AllReadyH.cons rfl (fun K hK=>?_) (AllReadyH.nil))
     (go_simp; ((first | (go_at_call 167; refine zf (zak) ?_; rintro e w1 ⟨s1,rfl,_,_⟩))); (try dsimp only); refine hK.out _ _ ?_ (fun hHeld2=>?_); (try dsimp only); (exact zab); clear hK K hHeld; have hHeld:=hHeld2; clear hHeld2; try simp only [Act.put,zs0,zs1,zs2])
     refine wpAnyH_ready (rs:=[6]) (by kernel_rfl) (by simp) (AllReadyH.cons rfl (fun K hK=>?_) (AllReadyH.nil))
     (go_simp; (go_at_call 162; refine zf (zaA (x:=M) (y:=(q.den:Int)) (by have:=HI.out; omega)) ?_; rintro e w5 ⟨s5,rfl,_,_⟩); (try dsimp only); refine hK.out _ _ ?_ (fun hHeld2=>?_); (try dsimp only); (exact zab); clear hK K hHeld; have hHeld:=hHeld2; clear hHeld2; try simp only [Act.put,zs0,zs1,zs2])
     refine wpAnyH_ready (rs:=[7]) (by kernel_rfl) (by simp) (AllReadyH.cons rfl (fun K hK=>?_) (AllReadyH.nil))
     (go_simp; (go_at_call 172; refine zf (zal (x:=(q.den:Int)) (y:=((Nat.gcd M.natAbs (q.den:Int).natAbs:Nat):Int)) (by have:=HI.out; unfold MaxW; omega)) ?_; rintro e w6 ⟨s6,rfl,_,_⟩); (try dsimp only); refine hK.out _ _ ?_ (fun hHeld2=>?_); (try dsimp only); (exact zab); clear hK K hHeld; have hHeld:=hHeld2; clear hHeld2; try simp only [Act.put,zs0,zs1,zs2])
     refine wpAnyH_ready (rs:=[8]) (by kernel_rfl) (by simp) (AllReadyH.cons rfl (fun K hK=>?_) (AllReadyH.nil))
     (go_simp; (go_at_call 168; refine zf (zah (x:=M) (y:=flr (q.den:Int) ((Nat.gcd M.natAbs (q.den:Int).natAbs:Nat):Int)) (by have:=HI.out; unfold MaxW; omega)) ?_; rintro e w7 ⟨s7,rfl,_,_⟩); (try dsimp only); refine hK.out _ _ ?_ (fun hHeld2=>?_); (try dsimp only); (exact zab); clear hK K hHeld; have hHeld:=hHeld2; clear hHeld2; try simp only [Act.put,zs0,zs1,zs2])
     refine wpAnyH_ready (rs:=[9]) (by kernel_rfl) (by simp) (AllReadyH.cons rfl (fun K hK=>?_) (AllReadyH.nil))
     (go_simp; refine hK.out _ _ ?_ (fun hHeld2=>?_); (try dsimp only); (exact zab); clear hK K hHeld; have hHeld:=hHeld2; clear hHeld2; try simp only [Act.put,zs0,zs1,zs2])
     refine wpAnyH_done (by kernel_rfl) ?_ _
     go_wp2_with fail
     go_roundw
     all_goals first | exact ⟨i+1,_,rfl,HIN.out,za,za,by rw [<- HX.out]; infer_instance,zaa⟩ | exact ⟨i+1,_,by rw [HADD.out],HIN.out,za,za,by rw [<- HX.out]; infer_instance,zaa⟩ | ((repeat apply Exists.intro); exact ⟨⟨i+1,_,rfl,HIN.out,za,za,by rw [<- HX.out]; infer_instance,zaa⟩,rfl⟩) | ((repeat apply Exists.intro); exact ⟨⟨i+1,s7,by first | rfl | simp,HIN.out,za,za,by rw [<- HX.out]; infer_instance,zaa⟩,rfl⟩) | (simp [intOf]; have:=HIN.out; omega) | trace_state
    ·(go_simp; ((first | (go_at_call 167; refine zf (zak) ?_; rintro e w1 ⟨s1, rfl, _, _⟩))); (try dsimp only); refine hK.out _ _ ?_ (fun hHeld2 => ?_); (try dsimp only); (exact zab); clear hK K hHeld; have hHeld := hHeld2; clear hHeld2; try simp only [Act.put, zs0, zs1, zs2])
     refine wpAnyH_ready (rs:=[0,5]) (by kernel_rfl) (by simp) (AllReadyH.cons rfl (fun K hK=>?_) (AllReadyH.cons rfl (fun K hK=>?_) (AllReadyH.nil)))
     ·(go_simp; refine hK.out _ _ ?_ (fun hHeld2 => ?_); (try dsimp only); (exact zab); clear hK K hHeld; have hHeld := hHeld2; clear hHeld2; try simp only [Act.put, zs0, zs1, zs2])
      refine wpAnyH_ready (rs:=[5]) (by kernel_rfl) (by simp) (AllReadyH.cons rfl (fun K hK=>?_) (AllReadyH.nil))
      (go_simp; ((first | (go_at_call 167; refine zf (zak) ?_; rintro e w1 ⟨s1,rfl,_,_⟩))); (try dsimp only); refine hK.out _ _ ?_ (fun hHeld2=>?_); (try dsimp only); (exact zab); clear hK K hHeld; have hHeld:=hHeld2; clear hHeld2; try simp only [Act.put,zs0,zs1,zs2])
      refine wpAnyH_ready (rs:=[6]) (by kernel_rfl) (by simp) (AllReadyH.cons rfl (fun K hK=>?_) (AllReadyH.nil))
      (go_simp; (go_at_call 162; refine zf (zaA (x:=M) (y:=(q.den:Int)) (by have:=HI.out; omega)) ?_; rintro e w5 ⟨s5,rfl,_,_⟩); (try dsimp only); refine hK.out _ _ ?_ (fun hHeld2=>?_); (try dsimp only); (exact zab); clear hK K hHeld; have hHeld:=hHeld2; clear hHeld2; try simp only [Act.put,zs0,zs1,zs2])
      refine wpAnyH_ready (rs:=[7]) (by kernel_rfl) (by simp) (AllReadyH.cons rfl (fun K hK=>?_) (AllReadyH.nil))
      (go_simp; (go_at_call 172; refine zf (zal (x:=(q.den:Int)) (y:=((Nat.gcd M.natAbs (q.den:Int).natAbs:Nat):Int)) (by have:=HI.out; unfold MaxW; omega)) ?_; rintro e w6 ⟨s6,rfl,_,_⟩); (try dsimp only); refine hK.out _ _ ?_ (fun hHeld2=>?_); (try dsimp only); (exact zab); clear hK K hHeld; have hHeld:=hHeld2; clear hHeld2; try simp only [Act.put,zs0,zs1,zs2])
      refine wpAnyH_ready (rs:=[8]) (by kernel_rfl) (by simp) (AllReadyH.cons rfl (fun K hK=>?_) (AllReadyH.nil))
      (go_simp; (go_at_call 168; refine zf (zah (x:=M) (y:=flr (q.den:Int) ((Nat.gcd M.natAbs (q.den:Int).natAbs:Nat):Int)) (by have:=HI.out; unfold MaxW; omega)) ?_; rintro e w7 ⟨s7,rfl,_,_⟩); (try dsimp only); refine hK.out _ _ ?_ (fun hHeld2=>?_); (try dsimp only); (exact zab); clear hK K hHeld; have hHeld:=hHeld2; clear hHeld2; try simp only [Act.put,zs0,zs1,zs2])
      refine wpAnyH_ready (rs:=[9]) (by kernel_rfl) (by simp) (AllReadyH.cons rfl (fun K hK=>?_) (AllReadyH.nil))
      (go_simp; refine hK.out _ _ ?_ (fun hHeld2=>?_); (try dsimp only); (exact zab); clear hK K hHeld; have hHeld:=hHeld2; clear hHeld2; try simp only [Act.put,zs0,zs1,zs2])
      refine wpAnyH_done (by kernel_rfl) ?_ _
      go_wp2_with fail
      go_roundw
      all_goals first | exact ⟨i+1,_,rfl,HIN.out,za,za,by rw [<- HX.out]; infer_instance,zaa⟩ | exact ⟨i+1,_,by rw [HADD.out],HIN.out,za,za,by rw [<- HX.out]; infer_instance,zaa⟩ | ((repeat apply Exists.intro); exact ⟨⟨i+1,_,rfl,HIN.out,za,za,by rw [<- HX.out]; infer_instance,zaa⟩,rfl⟩) | ((repeat apply Exists.intro); exact ⟨⟨i+1,s7,by first | rfl | simp,HIN.out,za,za,by rw [<- HX.out]; infer_instance,zaa⟩,rfl⟩) | (simp [intOf]; have:=HIN.out; omega) | trace_state
     ·(go_simp; ((first | (go_at_call 167; refine zf (zak) ?_; rintro e w1 ⟨s1, rfl, _, _⟩))); (try dsimp only); refine hK.out _ _ ?_ (fun hHeld2 => ?_); (try dsimp only); (exact zab); clear hK K hHeld; have hHeld := hHeld2; clear hHeld2; try simp only [Act.put, zs0, zs1, zs2])
      refine wpAnyH_ready (rs:=[0,6]) (by kernel_rfl) (by simp) (AllReadyH.cons rfl (fun K hK=>?_) (AllReadyH.cons rfl (fun K hK=>?_) (AllReadyH.nil)))
      ·(go_simp; refine hK.out _ _ ?_ (fun hHeld2 => ?_); (try dsimp only); (exact zab); clear hK K hHeld; have hHeld := hHeld2; clear hHeld2; try simp only [Act.put, zs0, zs1, zs2])
       refine wpAnyH_ready (rs:=[6]) (by kernel_rfl) (by simp) (AllReadyH.cons rfl (fun K hK=>?_) (AllReadyH.nil))
       (go_simp; (go_at_call 162; refine zf (zaA (x:=M) (y:=(q.den:Int)) (by have:=HI.out; omega)) ?_; rintro e w5 ⟨s5,rfl,_,_⟩); (try dsimp only); refine hK.out _ _ ?_ (fun hHeld2=>?_); (try dsimp only); (exact zab); clear hK K hHeld; have hHeld:=hHeld2; clear hHeld2; try simp only [Act.put,zs0,zs1,zs2])
       refine wpAnyH_ready (rs:=[7]) (by kernel_rfl) (by simp) (AllReadyH.cons rfl (fun K hK=>?_) (AllReadyH.nil))
       (go_simp; (go_at_call 172; refine zf (zal (x:=(q.den:Int)) (y:=((Nat.gcd M.natAbs (q.den:Int).natAbs:Nat):Int)) (by have:=HI.out; unfold MaxW; omega)) ?_; rintro e w6 ⟨s6,rfl,_,_⟩); (try dsimp only); refine hK.out _ _ ?_ (fun hHeld2=>?_); (try dsimp only); (exact zab); clear hK K hHeld; have hHeld:=hHeld2; clear hHeld2; try simp only [Act.put,zs0,zs1,zs2])
       refine wpAnyH_ready (rs:=[8]) (by kernel_rfl) (by simp) (AllReadyH.cons rfl (fun K hK=>?_) (AllReadyH.nil))
       (go_simp; (go_at_call 168; refine zf (zah (x:=M) (y:=flr (q.den:Int) ((Nat.gcd M.natAbs (q.den:Int).natAbs:Nat):Int)) (by have:=HI.out; unfold MaxW; omega)) ?_; rintro e w7 ⟨s7,rfl,_,_⟩); (try dsimp only); refine hK.out _ _ ?_ (fun hHeld2=>?_); (try dsimp only); (exact zab); clear hK K hHeld; have hHeld:=hHeld2; clear hHeld2; try simp only [Act.put,zs0,zs1,zs2])
       refine wpAnyH_ready (rs:=[9]) (by kernel_rfl) (by simp) (AllReadyH.cons rfl (fun K hK=>?_) (AllReadyH.nil))
       (go_simp; refine hK.out _ _ ?_ (fun hHeld2=>?_); (try dsimp only); (exact zab); clear hK K hHeld; have hHeld:=hHeld2; clear hHeld2; try simp only [Act.put,zs0,zs1,zs2])
       refine wpAnyH_done (by kernel_rfl) ?_ _
       go_wp2_with fail
       go_roundw
       all_goals first | exact ⟨i+1,_,rfl,HIN.out,za,za,by rw [<- HX.out]; infer_instance,zaa⟩ | exact ⟨i+1,_,by rw [HADD.out],HIN.out,za,za,by rw [<- HX.out]; infer_instance,zaa⟩ | ((repeat apply Exists.intro); exact ⟨⟨i+1,_,rfl,HIN.out,za,za,by rw [<- HX.out]; infer_instance,zaa⟩,rfl⟩) | ((repeat apply Exists.intro); exact ⟨⟨i+1,s7,by first | rfl | simp,HIN.out,za,za,by rw [<- HX.out]; infer_instance,zaa⟩,rfl⟩) | (simp [intOf]; have:=HIN.out; omega) | trace_state
      ·(go_simp; (go_at_call 162; refine zf (zaA (x := M) (y := (q.den : Int)) (by have := HI.out; omega)) ?_; rintro e w5 ⟨s5, rfl, _, _⟩); (try dsimp only); refine hK.out _ _ ?_ (fun hHeld2 => ?_); (try dsimp only); (exact zab); clear hK K hHeld; have hHeld := hHeld2; clear hHeld2; try simp only [Act.put, zs0, zs1, zs2])
       refine wpAnyH_ready (rs:=[0,7]) (by kernel_rfl) (by simp) (AllReadyH.cons rfl (fun K hK=>?_) (AllReadyH.cons rfl (fun K hK=>?_) (AllReadyH.nil)))
       ·(go_simp; refine hK.out _ _ ?_ (fun hHeld2 => ?_); (try dsimp only); (exact zab); clear hK K hHeld; have hHeld := hHeld2; clear hHeld2; try simp only [Act.put, zs0, zs1, zs2])
        refine wpAnyH_ready (rs:=[7]) (by kernel_rfl) (by simp) (AllReadyH.cons rfl (fun K hK=>?_) (AllReadyH.nil))
        (go_simp; (go_at_call 172; refine zf (zal (x:=(q.den:Int)) (y:=((Nat.gcd M.natAbs (q.den:Int).natAbs:Nat):Int)) (by have:=HI.out; unfold MaxW; omega)) ?_; rintro e w6 ⟨s6,rfl,_,_⟩); (try dsimp only); refine hK.out _ _ ?_ (fun hHeld2=>?_); (try dsimp only); (exact zab); clear hK K hHeld; have hHeld:=hHeld2; clear hHeld2; try simp only [Act.put,zs0,zs1,zs2])
        refine wpAnyH_ready (rs:=[8]) (by kernel_rfl) (by simp) (AllReadyH.cons rfl (fun K hK=>?_) (AllReadyH.nil))
        (go_simp; (go_at_call 168; refine zf (zah (x:=M) (y:=flr (q.den:Int) ((Nat.gcd M.natAbs (q.den:Int).natAbs:Nat):Int)) (by have:=HI.out; unfold MaxW; omega)) ?_; rintro e w7 ⟨s7,rfl,_,_⟩); (try dsimp only); refine hK.out _ _ ?_ (fun hHeld2=>?_); (try dsimp only); (exact zab); clear hK K hHeld; have hHeld:=hHeld2; clear hHeld2; try simp only [Act.put,zs0,zs1,zs2])
        refine wpAnyH_ready (rs:=[9]) (by kernel_rfl) (by simp) (AllReadyH.cons rfl (fun K hK=>?_) (AllReadyH.nil))
        (go_simp; refine hK.out _ _ ?_ (fun hHeld2=>?_); (try dsimp only); (exact zab); clear hK K hHeld; have hHeld:=hHeld2; clear hHeld2; try simp only [Act.put,zs0,zs1,zs2])
        refine wpAnyH_done (by kernel_rfl) ?_ _
        go_wp2_with fail
        go_roundw
        all_goals first | exact ⟨i+1,_,rfl,HIN.out,za,za,by rw [<- HX.out]; infer_instance,zaa⟩ | exact ⟨i+1,_,by rw [HADD.out],HIN.out,za,za,by rw [<- HX.out]; infer_instance,zaa⟩ | ((repeat apply Exists.intro); exact ⟨⟨i+1,_,rfl,HIN.out,za,za,by rw [<- HX.out]; infer_instance,zaa⟩,rfl⟩) | ((repeat apply Exists.intro); exact ⟨⟨i+1,s7,by first | rfl | simp,HIN.out,za,za,by rw [<- HX.out]; infer_instance,zaa⟩,rfl⟩) | (simp [intOf]; have:=HIN.out; omega) | trace_state
       ·(go_simp; (go_at_call 172; refine zf (zal (x := (q.den : Int)) (y := ((Nat.gcd M.natAbs (q.den : Int).natAbs : Nat) : Int)) (by have := HI.out; unfold MaxW; omega)) ?_; rintro e w6 ⟨s6, rfl, _, _⟩); (try dsimp only); refine hK.out _ _ ?_ (fun hHeld2 => ?_); (try dsimp only); (exact zab); clear hK K hHeld; have hHeld := hHeld2; clear hHeld2; try simp only [Act.put, zs0, zs1, zs2])
        refine wpAnyH_ready (rs:=[0]) (by kernel_rfl) (by simp) (AllReadyH.cons rfl (fun K hK=>?_) (AllReadyH.nil))
        (go_simp; refine hK.out _ _ ?_ (fun hHeld2=>?_); (try dsimp only); (exact zab); clear hK K hHeld; have hHeld:=hHeld2; clear hHeld2; try simp only [Act.put,zs0,zs1,zs2])
        refine wpAnyH_ready (rs:=[8]) (by kernel_rfl) (by simp) (AllReadyH.cons rfl (fun K hK=>?_) (AllReadyH.nil))
        (go_simp; (go_at_call 168; refine zf (zah (x:=M) (y:=flr (q.den:Int) ((Nat.gcd M.natAbs (q.den:Int).natAbs:Nat):Int)) (by have:=HI.out; unfold MaxW; omega)) ?_; rintro e w7 ⟨s7,rfl,_,_⟩); (try dsimp only); refine hK.out _ _ ?_ (fun hHeld2=>?_); (try dsimp only); (exact zab); clear hK K hHeld; have hHeld:=hHeld2; clear hHeld2; try simp only [Act.put,zs0,zs1,zs2])
        refine wpAnyH_ready (rs:=[9]) (by kernel_rfl) (by simp) (AllReadyH.cons rfl (fun K hK=>?_) (AllReadyH.nil))
        (go_simp; refine hK.out _ _ ?_ (fun hHeld2=>?_); (try dsimp only); (exact zab); clear hK K hHeld; have hHeld:=hHeld2; clear hHeld2; try simp only [Act.put,zs0,zs1,zs2])
        refine wpAnyH_done (by kernel_rfl) ?_ _
        go_wp2_with fail
        go_roundw
        all_goals first | exact ⟨i+1,_,rfl,HIN.out,za,za,by rw [<- HX.out]; infer_instance,zaa⟩ | exact ⟨i+1,_,by rw [HADD.out],HIN.out,za,za,by rw [<- HX.out]; infer_instance,zaa⟩ | ((repeat apply Exists.intro); exact ⟨⟨i+1,_,rfl,HIN.out,za,za,by rw [<- HX.out]; infer_instance,zaa⟩,rfl⟩) | ((repeat apply Exists.intro); exact ⟨⟨i+1,s7,by first | rfl | simp,HIN.out,za,za,by rw [<- HX.out]; infer_instance,zaa⟩,rfl⟩) | (simp [intOf]; have:=HIN.out; omega) | trace_state
  ·have hlt : decide ((i : Int) < (k : Int)) = false := by simp; omega
   have hlt':¬ (i:Int) < (k:Int):=by omega
   obtain rfl:i=k:=by omega
   clear hi hin
   go_wp2_with fail
   simp [bodyPost,results,Tryz.results190,go_sem]
   exact ⟨s,rfl,za,zaa⟩
end Go.Proofs.YtombhkpniddceaaGreatDoor
