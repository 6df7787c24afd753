import Derived.Test.YtombhkpniddceaaGreatDoorM21
set_option maxHeartbeats 6400000
set_option maxRecDepth 100000
set_option synthInstance.maxSize 20000
set_option linter.all false
namespace Go.Proofs.YtombhkpniddceaaGreatDoor
open Go.RowKit
def zaF (n one:Int):Nat -> Int × Int
 | 0=>(0,flr one n)
 | i+1=>(if i % 2=0 then (zaF n one i).1+flr (zaF n one i).2 ((2 * i+1:Nat):Int) else (zaF n one i).1 - flr (zaF n one i).2 ((2 * i+1:Nat):Int),flr (zaF n one i).2 (n * n))
theorem ge_of {g:Nat} {w:World} [h:Ge g w]:Ge g w:=h
theorem zhu {w:World}:IntIs w (.agg #[.bool false,.slice none 0 0]) 0:=⟨_,rfl,NatIs.zero _⟩
theorem zbC {x:Int} (h0 : -(2 ^ 63) <= x) (h1:x < 2 ^ 63):Wd x 1:=⟨zaf (by unfold B64; omega)⟩
theorem zdG {v1:Value} {n one:Int} {N a:Nat} {w:World} [h1:IntIs w v1 one] [d1:Wd one a] (hn0:1 <= n) (hn1:n < 2 ^ 20) (hN:N < 2 ^ 40) (ha:a <= 2 ^ 30)
  (HW:Hid (∀ i,i <= N -> Wd (zaF n one i).1 a/\Wd (zaF n one i).2 a)) (HP:Hid (∀ i,i < N -> 0 < (zaF n one i).2)) (HE:Hid ((zaF n one N).2 <= 0)):
  Calls Tryz.prog 303 #[.int .i64 n,v1] w (IRet w (zaF n one N).1):=by
 obtain ⟨s1,rfl,_,_⟩:=h1.form
 have HN0:=zc hn0; have HN1:=zc hn1; have HN:=zc hN
 have HL:=zc (show -(2 ^ 63) <= n by omega); have HH:=zc (show n < 2 ^ 63 by omega)
 have nz:NZ n:=⟨by omega⟩
 have nz2:NZ (n * n):=⟨by have:0 < n * n:=Int.mul_pos (by omega) (by omega); omega⟩
 have dn:Wd n 1:=zbC (by omega) (by omega)
 have hnn:n * n < 2 ^ 20 * 2 ^ 20:=Int.lt_of_lt_of_le (Int.mul_lt_mul_of_pos_left hn1 (by omega)) (Int.mul_le_mul_of_nonneg_right (by omega) (by decide))
 have hnn0:0 <= n * n:=Int.mul_nonneg (by omega) (by omega)
 have dnn:Wd (n * n) 1:=zbC (by omega) (by omega)
 have HWN:Hid (IntKind.i64.wrap (n * n)=n * n):=zc (by rw [zx]; omega)
 have HNL:=zc (show -(2 ^ 63) <= n * n by omega); have HNH:=zc (show n * n < 2 ^ 63 by omega)
 have HNN:=zc hnn; have HNN0:=zc hnn0
 have hM:a+a+a+99 <= MaxW:=by unfold MaxW; omega
 clear hn0 hn1 hN hnn hnn0
 go_enter Tryz.func303,Tryz.ntmps303
 go_upto_region 1 with fail
 go_cut [5,6] (fun t5 t6 wx=>∃ (g5 g6:Nat) (s5 s6:IV),t5 = .pointer (some ⟨g5,0,none⟩)/\t6 = .pointer (some ⟨g6,0,none⟩)/\Blk wx g5 98 #[.bool s5.b,s5.m.v]/\Blk wx g6 98 #[.bool s6.b,s6.m.v] /\
  Blk wx w.heap.size 98 #[.bool s1.b,s1.m.v]/\Blk wx (w.heap.size+1) 98 #[.bool false,.slice none 0 0] /\
  IntIs wx s5.v 0/\IntIs wx s6.v (flr one n)/\Apart g5 g6/\Apart g6 g5/\Apart (w.heap.size+1) g5/\Apart (w.heap.size+1) g6/\Apart w.heap.size g5/\Apart w.heap.size g6/\Ge g5 w/\Ge g6 w/\Nxt w wx)
 case first=>
  (refine Code.nameW ?_; intro W hW; go_region_held3 (fun w'=>ButO W [] w') (exact zab) ((first | (go_at_call 141; refine zf (zaD (by exact HL.out) (by exact HH.out)) ?_; rintro e w1 ⟨s1,rfl,_,_⟩) | (go_at_call 172; refine zf (zal (by omega)) ?_; rintro e w1 ⟨s1,rfl,_,_⟩))))
  all_goals go_wp2_with fail
  all_goals go_meet
  all_goals exact ⟨_,_,⟨false,⟨none,0,0⟩⟩,_,rfl,rfl,za,za,za,za,zhu,za,za,za,za,za,za,za,ge_of,ge_of,zaa⟩
 case rest=>
  obtain ⟨g5,g6,s5,s6,rfl,rfl,_,_,_,_,_,_,_,_,_,_,_,_,_,_,_⟩:=hcut
  go_wp2_with fail
  go_loopw [7] (fun s7 wr=>∃ (i:Nat) (s5 s6:IV),s7 = .int .i64 ((2 * i+1:Nat):Int)/\i <= N/\Blk wr g5 98 #[.bool s5.b,s5.m.v]/\Blk wr g6 98 #[.bool s6.b,s6.m.v] /\
   Blk wr w.heap.size 98 #[.bool s1.b,s1.m.v]/\Blk wr (w.heap.size+1) 98 #[.bool false,.slice none 0 0] /\
   IntIs wr s5.v (zaF n one i).1/\IntIs wr s6.v (zaF n one i).2/\Nxt w wr) (fun s7 _=>2 * N+1 - (intOf s7).toNat)
  case atStart=>exact ⟨0,s5,s6,rfl,Nat.zero_le _,za,za,za,za,za,za,za⟩
  case round=>
   obtain ⟨i,s5,s6,rfl,hi,_,_,_,_,_,_,_⟩:=hrel
   obtain ⟨dw1,dw2⟩:=HW.out i hi
   by_cases hin:i < N
   ·have hpos := HP.out i hin
    have hsg:sgnI (zaF n one i).2=1:=by unfold sgnI; rw [if_neg (by omega),if_neg (by omega)]
    obtain ⟨K,hK⟩:∃ K,((2 * i+1:Nat):Int)=K:=⟨_,rfl⟩
    have hk0 : -(2 ^ 63) <= K:=by omega
    have hk1:K < 2 ^ 63:=by have:=HN.out; omega
    have hkz:K ≠ 0:=by omega
    have hadd:IntKind.i64.wrap (K+2)=((2 * (i+1)+1:Nat):Int):=by have:=HN.out; rw [zx]; omega
    have dk:Wd K 1:=zbC hk0 hk1
    have HS:=zc hsg; have HK0:=zc hk0; have HK1:=zc hk1; have nzk:NZ K:=⟨hkz⟩; have HI:=zc hi; have HIN:=zc hin
    obtain ⟨T,hT⟩:∃ T,flr (zaF n one i).2 K=T:=⟨_,rfl⟩
    have HT:=zc hT
    obtain ⟨S1,hS1⟩:∃ S1,(zaF n one (i+1)).1=S1:=⟨_,rfl⟩
    obtain ⟨S2,hS2⟩:∃ S2,(zaF n one (i+1)).2=S2:=⟨_,rfl⟩
    have hS1':(if i % 2=0 then (zaF n one i).1+T else (zaF n one i).1 - T)=S1:=by rw [<- hS1,<- hT,<- hK]; rfl
    have HS2:=zc (show flr (zaF n one i).2 (n * n)=S2 by rw [<- hS2]; rfl)
    have HQ1:=zc hS1; have HQ2:=zc hS2
    have dT:Wd T a:=⟨by rw [<- hT,zeo (by omega)]; refine zo (zar ?_) dw2.out; exact Int.natAbs_ediv_le_natAbs _ _⟩
    have hK4:(i % 2=0 -> (K.tmod 4 == 1)=true)/\(i % 2 ≠ 0 -> (K.tmod 4 == 1)=false):=by
     rw [<- hK,Int.tmod_eq_emod_of_nonneg (by omega)]
     constructor
     ·intro h; simp; omega
     ·intro h; simp; omega
    have HK4:=zc hK4; have HS1:=zc hS1'
    have HMS:=zc (show 2 * N+1 - (2 * (i+1)+1) < 2 * N+1 - (2 * i+1) by omega)
    have HKI:=zc hK
    clear hpos hsg hk0 hk1 hkz hi hin hT hS1 hS2 hK hK4 hS1'
    generalize zaF n one i=P at *
    rw [HKI.out]
    go_wp2_with (go_at_call 164; refine zf (zbd (x:=P.2)) ?_; rw [HS.out]; rintro e w1 ⟨rfl,_⟩)
    go_upto_region 5 with fail
    go_cut [8] (fun t8 wx=>∃ (g8:Nat) (s8:IV),t8 = .pointer (some ⟨g8,0,none⟩)/\Blk wx g8 98 #[.bool s8.b,s8.m.v]/\IntIs wx s8.v T/\Blk wx g5 98 #[.bool s5.b,s5.m.v]/\Blk wx g6 98 #[.bool s6.b,s6.m.v] /\
     Blk wx w.heap.size 98 #[.bool s1.b,s1.m.v]/\Blk wx (w.heap.size+1) 98 #[.bool false,.slice none 0 0] /\
     IntIs wx s5.v P.1/\IntIs wx s6.v P.2/\Nxt w wx)
    case first=>
     (refine Code.nameW ?_; intro W hW; go_region_held3 (fun w'=>ButO W [] w') (exact zab) ((first | (go_at_call 141; refine zf (zaD (by exact HK0.out) (by exact HK1.out)) ?_; rintro e w1 ⟨s1,rfl,_,_⟩) | (go_at_call 172; refine zf (zal (by omega)) ?_; rintro e w1 ⟨s1,rfl,_,_⟩))))
     all_goals go_wp2_with fail
     all_goals go_meet
     all_goals exact ⟨_,_,rfl,za,by rw [<- HT.out]; infer_instance,za,za,za,za,za,za,zaa⟩
    case rest=>
     obtain ⟨g8,s8,rfl,_,_,_,_,_,_,_,_,_⟩:=hcut
     by_cases hpar:i % 2=0
     ·have hk4 := HK4.out.1 hpar
      have HX:=zc (show P.1+T=S1 by rw [<- HS1.out,if_pos hpar])
      clear hpar
      go_wp2_with (first | (go_at_call 199; refine zf (zbm (by omega)) ?_; rintro e w1 ⟨s1,rfl,_,_⟩))
      have hwn:=HWN.out
      go_region_with ((first | (go_at_call 141; refine zf (zaD (by exact HNL.out) (by exact HNH.out)) ?_; rintro e w1 ⟨s1,rfl,_,_⟩) | (go_at_call 172; refine zf (zal (by omega)) ?_; rintro e w1 ⟨s1,rfl,_,_⟩)))
      all_goals clear hwn
      all_goals
       go_wp2_with fail
       refine ⟨?_,?_⟩
       ·repeat apply Exists.intro
        exact ⟨⟨i+1,_,_,rfl,HIN.out,za,za,za,za,by rw [HQ1.out,<- HX.out]; infer_instance,by rw [HQ2.out,<- HS2.out]; infer_instance,zaa⟩,rfl⟩
       ·show 2 * N + 1 - (intOf (Value.int .i64 ((2 * (i + 1) + 1 : Nat) : Int))).toNat < 2 * N + 1 - (intOf (Value.int .i64 K)).toNat
        have h8:=HIN.out; have h9:=HKI.out
        simp only [intOf]; omega
     ·have hk4 := HK4.out.2 hpar
      have HX:=zc (show P.1 - T=S1 by rw [<- HS1.out,if_neg hpar])
      clear hpar
      go_wp2_with (first | (go_at_call 239; refine zf (zcy (by omega)) ?_; rintro e w1 ⟨s1,rfl,_,_⟩))
      have hwn:=HWN.out
      go_region_with ((first | (go_at_call 141; refine zf (zaD (by exact HNL.out) (by exact HNH.out)) ?_; rintro e w1 ⟨s1,rfl,_,_⟩) | (go_at_call 172; refine zf (zal (by omega)) ?_; rintro e w1 ⟨s1,rfl,_,_⟩)))
      all_goals clear hwn
      all_goals
       go_wp2_with fail
       refine ⟨?_,?_⟩
       ·repeat apply Exists.intro
        exact ⟨⟨i+1,_,_,rfl,HIN.out,za,za,za,za,by rw [HQ1.out,<- HX.out]; infer_instance,by rw [HQ2.out,<- HS2.out]; infer_instance,zaa⟩,rfl⟩
       ·show 2 * N + 1 - (intOf (Value.int .i64 ((2 * (i + 1) + 1 : Nat) : Int))).toNat < 2 * N + 1 - (intOf (Value.int .i64 K)).toNat
        have h8:=HIN.out; have h9:=HKI.out
        simp only [intOf]; omega
   ·obtain rfl : i = N := by omega
    have hle:=HE.out
    have hsg:decide (0 < sgnI (zaF n one i).2)=false:=by unfold sgnI; simp; split <;> (try split) <;> omega
    clear hle hin hi
    go_wp2_with (go_at_call 164; refine zf (zbd) ?_; rintro e w1 ⟨rfl,_⟩)
    simp [bodyPost,results,Tryz.results303,go_sem]
    exact ⟨s5,rfl,za,zaa⟩
theorem zhy {v1:Value} {q:Rat} {M:Int} {g a:Nat} {s:IV} {w:World} [h1:RatIs w v1 q] [d1:Sz q 600] [hb:Blk w g 98 #[.bool s.b,s.m.v]] [hM:IntIs w s.v M] [dM:Wd M a] (ha:a <= 2 ^ 20):
  Calls Tryz.prog 192 #[v1,.pointer (some ⟨g,0,none⟩)] w (IRet w (q.num * flr M (q.den:Int))):=by
 obtain ⟨s1,rfl,_,n1,k1,HE1⟩:=h1.form
 have HA:=zc ha
 have nz:NZ (q.den:Int):=⟨by have:=q.den_nz; omega⟩
 have dF:Wd (flr M (q.den:Int)) (a+1):=⟨by
  have hd:0 < (q.den:Int):=by have:=q.den_nz; omega
  rw [zeo hd]
  exact zo (zar (Int.natAbs_ediv_le_natAbs _ _)) (zo dM.out (Nat.le_succ _))⟩
 clear ha
 go_enter Tryz.func192,Tryz.ntmps192
 go_wp2_with fail
 (refine Code.nameW ?_; intro W hW; go_region_held3 (fun w'=>ButO W [w.heap.size+1] w') (exact zab) ((first | (go_at_call 165; refine zf (zby) ?_; rintro e w1 ⟨s1,rfl,_,_⟩) | (go_at_call 167; refine zf (zak) ?_; rintro e w1 ⟨s1,rfl,_,_⟩) | (go_at_call 172; refine zf (zfG (x:=M) (y:=(q.den:Int)) (by have:=HA.out; unfold MaxW; omega) nz.out) ?_; rintro e w1 ⟨s1,rfl,_,_⟩) | (go_at_call 168; refine zf (zah (x:=q.num) (y:=flr M (q.den:Int)) (by have:=HA.out; unfold MaxW; omega)) ?_; rintro e w1 ⟨s1,rfl,_,_⟩))))
 all_goals go_wp2_with fail
 all_goals (simp [bodyPost,results,Tryz.results192,go_sem])
 all_goals exact ⟨_,rfl,za,zaa⟩
end Go.Proofs.YtombhkpniddceaaGreatDoor
