import Derived.Test.YtombhkpniddceaaGreatDoorM39
set_option maxHeartbeats 12800000
set_option maxRecDepth 100000
set_option synthInstance.maxSize 20000
set_option linter.all false
namespace Go.Proofs.YtombhkpniddceaaGreatDoor
open Go.RowKit
def cosIt (one sq:Int):Nat -> Int × Int
 | 0=>(0,one)
 | i+1=>(if i % 2=0 then (cosIt one sq i).1+(cosIt one sq i).2 else (cosIt one sq i).1 - (cosIt one sq i).2,flr ((cosIt one sq i).2 * sq) (one * (((2 * i+1) * (2 * i+2):Nat):Int)))
def angI (q:Rat) (pi:Int):Int:=flr (pi * q.num * 2) (q.den:Int)
structure CosOk (q:Rat) (d N M K a:Nat):Prop where
 atan5:zgT 5 ((10:Int) ^ d) N a
 atan239:zgT 239 ((10:Int) ^ d) M a
 wone:Wd ((10:Int) ^ d) a
 wpi:Wd (piI ((10:Int) ^ d) N M) a
 wang:Wd (angI q (piI ((10:Int) ^ d) N M)) a
 wsq:Wd (flr (angI q (piI ((10:Int) ^ d) N M) * angI q (piI ((10:Int) ^ d) N M)) ((10:Int) ^ d)) a
 few:K < 2 ^ 20
 wd:∀ i,i <= K -> Wd (cosIt ((10:Int) ^ d) (flr (angI q (piI ((10:Int) ^ d) N M) * angI q (piI ((10:Int) ^ d) N M)) ((10:Int) ^ d)) i).1 a/\Wd (cosIt ((10:Int) ^ d) (flr (angI q (piI ((10:Int) ^ d) N M) * angI q (piI ((10:Int) ^ d) N M)) ((10:Int) ^ d)) i).2 a
 pos:∀ i,i < K -> 0 < (cosIt ((10:Int) ^ d) (flr (angI q (piI ((10:Int) ^ d) N M) * angI q (piI ((10:Int) ^ d) N M)) ((10:Int) ^ d)) i).2
 last:(cosIt ((10:Int) ^ d) (flr (angI q (piI ((10:Int) ^ d) N M) * angI q (piI ((10:Int) ^ d) N M)) ((10:Int) ^ d)) K).2 <= 0
def cosI (q:Rat) (d N M K:Nat):Int:=(cosIt ((10:Int) ^ d) (flr (angI q (piI ((10:Int) ^ d) N M) * angI q (piI ((10:Int) ^ d) N M)) ((10:Int) ^ d)) K).1
theorem zcU {v:Value} {q:Rat} {d N M K a b:Nat} {w:World} [h1:RatIs w v q] [d1:Sz q b] (ha:a <= 2 ^ 28) (hb:b <= 2 ^ 28) (hd:d <= 2 ^ 20) (hC:CosOk q d N M K a) (hq:cmpQ q (Rat.divInt 1 4) <= 0):
  Calls Tryz.prog 248 #[v,.int .i64 (d:Int)] w (IRet w (cosI q d N M K)):=by
 obtain ⟨s,rfl,_,n1,k1,HE1⟩:=h1.form
 have HA:=zc ha; have HB:=zc hb; have HD:=zc hd
 obtain ⟨c,hc⟩:∃ c,cmpQ q (Rat.divInt 1 4)=c:=⟨_,rfl⟩
 have HC:=Bx.mk hc
 rw [hc] at hq
 have hcle:decide (0 < c)=false:=by simp; omega
 obtain ⟨one,hone⟩:∃ one,(10:Int) ^ d=one:=⟨_,rfl⟩
 have HONE:=zc hone
 obtain ⟨c1,c2,c3,c4,c5,c6,c7,c8,c9,c10⟩:=hC
 have HV:=zc (show cosI q d N M K=(cosIt ((10:Int) ^ d) (flr (angI q (piI ((10:Int) ^ d) N M) * angI q (piI ((10:Int) ^ d) N M)) ((10:Int) ^ d)) K).1 from rfl)
 rw [hone] at c1 c2 c3 c4 c5 c6 c8 c9 c10 HV
 obtain ⟨pi,hpi⟩:∃ pi,piI one N M=pi:=⟨_,rfl⟩
 rw [hpi] at c4 c5 c6 c8 c9 c10 HV
 obtain ⟨ang,hang⟩:∃ ang,angI q pi=ang:=⟨_,rfl⟩
 rw [hang] at c5 c6 c8 c9 c10 HV
 obtain ⟨sq,hsq⟩:∃ sq,flr (ang * ang) one=sq:=⟨_,rfl⟩
 rw [hsq] at c6 c8 c9 c10 HV
 have HPI:=zc hpi; have HANG:=zc (show flr (pi * q.num * 2) (q.den:Int)=ang from hang); have HSQ:=zc hsq
 have A5:=zc c1; have A239:=zc c2; have HK:=zc c7; have HW:=zc c8; have HP:=zc c9; have HL:=zc c10
 have hop:0 < one:=by rw [<- hone]; exact Int.pow_pos (by decide)
 have nzo:NZ one:=⟨by omega⟩
 have nzd:NZ (q.den:Int):=⟨by have:=q.den_nz; omega⟩
 have HOP:=zc hop
 have d2:Wd (2:Int) 1:=zbC (by omega) (by omega)
 have hM:a+a+a+a+a+a+a+a+a+a+b+b+b+b+99 <= MaxW:=by unfold MaxW; omega
 have HM2:=zc hM
 clear ha hb hd hc hq hone c1 c2 c7 c8 c9 c10 hpi hang hsq hop
 go_enter Tryz.func248,Tryz.ntmps248
 go_wp2_with fail
 refine zf (zcq (by decide) (by decide) (by decide) (by decide)) ?_
 rintro e w1 ⟨q4,rfl,_,_⟩
 go_wp2_with fail
 refine zf (zcq (by decide) (by decide) (by decide) (by decide)) ?_
 rintro e w1 ⟨q2,rfl,_,_⟩
 have sq4:Sz (Rat.divInt 1 4) 3:=⟨by decide +kernel,by decide +kernel⟩
 go_wp2_with ((first
  | (go_at_call 97; refine zf (zbz (q:=q) (r:=Rat.divInt 1 4) (by have:=HB.out; omega)) ?_; rw [HC.out]; rintro e w1 ⟨rfl,_⟩)
  | (go_at_call 171; refine zf (zdN (b:=10) (by decide) (by decide) (by have:=HD.out; omega)) ?_; rw [HONE.out]; rintro e w9 ⟨s7,rfl,_,_⟩)))
 go_upto_region 5 with fail
 go_cut [8] (fun t8 wx=>∃ (g8:Nat) (s8:IV),t8 = .pointer (some ⟨g8,0,none⟩)/\Blk wx g8 98 #[.bool s8.b,s8.m.v]/\IntIs wx s8.v ang/\Blk wx w9.heap.size 98 #[.bool s7.b,s7.m.v]/\IntIs wx s7.v one /\
  Blk wx w.heap.size 100 #[.bool s.n.b,.slice s.n.m.A s.n.m.k s.n.m.c,.slice s.d.A s.d.k s.d.c]/\Blk wx (w.heap.size+1) 98 #[.bool false,.slice none 0 0]/\NewIn g8 w9/\Nxt w wx)
 case first=>
  (refine Code.nameW ?_; intro W hW; go_region_held3 (fun w'=>ButO W [] w') (exact zab) (((first | (go_at_call 165; refine zf (zby) ?_; rintro e w1 ⟨s1,rfl,_,_⟩) | (go_at_call 167; refine zf (zak) ?_; rintro e w1 ⟨s1,rfl,_,_⟩) | (go_at_call 168; refine zf (zah (by omega)) ?_; rintro e w1 ⟨s1,rfl,_,_⟩) | (go_at_call 172; refine zf (zal (by omega)) ?_; rintro e w1 ⟨s1,rfl,_,_⟩) | (go_at_call 141; refine zf (zaD (n:=2) (by omega) (by omega)) ?_; rintro e w1 ⟨s1,rfl,_,_⟩) | (go_at_call 279; refine zf (zli (N:=N) (M:=M) (by have:=HA.out; omega) A5.out A239.out) ?_; rw [HPI.out]; rintro e w1 ⟨s1,rfl,_,_⟩)))))
  all_goals go_wp2_with fail
  all_goals go_meet
  all_goals exact ⟨_,_,rfl,za,by rw [<- HANG.out]; infer_instance,za,za,za,za,zbh,zaa⟩
 case rest=>
  obtain ⟨g8,s8,rfl,_,_,_,_,_,_,_,_⟩:=hcut
  go_upto_region 6 with fail
  go_cut [9] (fun t9 wx=>∃ (g9:Nat) (s9:IV),t9 = .pointer (some ⟨g9,0,none⟩)/\Blk wx g9 98 #[.bool s9.b,s9.m.v]/\IntIs wx s9.v sq/\Blk wx w9.heap.size 98 #[.bool s7.b,s7.m.v]/\IntIs wx s7.v one /\
   Blk wx (w.heap.size+1) 98 #[.bool false,.slice none 0 0]/\Ge g9 w/\Apart w9.heap.size g9/\Apart (w.heap.size+1) g9/\Apart (w.heap.size+1) w9.heap.size/\Nxt w wx)
  case first=>
   (refine Code.nameW ?_; intro W hW; go_region_held3 (fun w'=>ButO W [] w') (exact zab) (((first | (go_at_call 168; refine zf (zah (by omega)) ?_; rintro e w1 ⟨s1,rfl,_,_⟩) | (go_at_call 172; refine zf (zal (by omega)) ?_; rintro e w1 ⟨s1,rfl,_,_⟩)))))
   all_goals go_wp2_with fail
   all_goals go_meet
   all_goals exact ⟨_,_,rfl,za,by rw [<- HSQ.out]; infer_instance,za,za,za,ge_of,za,za,za,zaa⟩
  case rest=>
   obtain ⟨g9,s9,rfl,_,_,_,_,_,_,_,_,_,_⟩:=hcut
   go_upto_region 7 with fail
   go_cut [10,11] (fun t10 t11 wx=>∃ (gA gB:Nat) (sA sB:IV),t10 = .pointer (some ⟨gA,0,none⟩)/\t11 = .pointer (some ⟨gB,0,none⟩)/\Blk wx gA 98 #[.bool sA.b,sA.m.v]/\IntIs wx sA.v 0/\Blk wx gB 98 #[.bool sB.b,sB.m.v]/\IntIs wx sB.v one /\
    Blk wx g9 98 #[.bool s9.b,s9.m.v]/\IntIs wx s9.v sq/\Blk wx w9.heap.size 98 #[.bool s7.b,s7.m.v]/\IntIs wx s7.v one/\Blk wx (w.heap.size+1) 98 #[.bool false,.slice none 0 0] /\
    Apart gA gB/\Apart gB gA/\Apart g9 gA/\Apart g9 gB/\Apart w9.heap.size gA/\Apart w9.heap.size gB/\Apart (w.heap.size+1) gA/\Apart (w.heap.size+1) gB/\Ge gA w/\Ge gB w/\Nxt w wx)
   case first=>
    (refine Code.nameW ?_; intro W hW; go_region_held3 (fun w'=>ButO W [] w') (exact zab) (fail))
    all_goals go_wp2_with fail
    all_goals go_meet
    all_goals exact ⟨_,_,⟨false,⟨none,0,0⟩⟩,_,rfl,rfl,za,zhu,za,za,za,za,za,za,za,za,za,za,za,za,za,za,za,ge_of,ge_of,zaa⟩
   case rest=>
    obtain ⟨gA,gB,sA,sB,rfl,rfl,_,_,_,_,_,_,_,_,_,_,_,_,_,_,_,_,_,_,_,_⟩:=hcut
    go_wp2_with fail
    go_loopw [12] (fun s12 wr=>∃ (i:Nat) (sA sB:IV),s12 = .int .i64 ((2 * i+1:Nat):Int)/\i <= K/\Blk wr gA 98 #[.bool sA.b,sA.m.v]/\Blk wr gB 98 #[.bool sB.b,sB.m.v] /\
     Blk wr g9 98 #[.bool s9.b,s9.m.v]/\Blk wr w9.heap.size 98 #[.bool s7.b,s7.m.v]/\Blk wr (w.heap.size+1) 98 #[.bool false,.slice none 0 0] /\
     IntIs wr sA.v (cosIt one sq i).1/\IntIs wr sB.v (cosIt one sq i).2/\IntIs wr s9.v sq/\IntIs wr s7.v one/\Nxt w wr) (fun s12 _=>2 * K+1 - (intOf s12).toNat)
    case atStart=>exact ⟨0,sA,sB,rfl,Nat.zero_le _,za,za,za,za,za,za,za,za,za,za⟩
    case round=>
     obtain ⟨i,sA,sB,rfl,hi,_,_,_,_,_,_,_,_,_,_⟩:=hrel
     obtain ⟨dw1,dw2⟩:=HW.out i hi
     by_cases hin:i < K
     ·have hpos := HP.out i hin
      have hsg:sgnI (cosIt one sq i).2=1:=by unfold sgnI; rw [if_neg (by omega),if_neg (by omega)]
      obtain ⟨k,hk⟩:∃ k,((2 * i+1:Nat):Int)=k:=⟨_,rfl⟩
      obtain ⟨k1,hk1⟩:∃ k1,((2 * i+2:Nat):Int)=k1:=⟨_,rfl⟩
      obtain ⟨P,hP⟩:∃ P,(((2 * i+1) * (2 * i+2):Nat):Int)=P:=⟨_,rfl⟩
      have hK:=HK.out
      have hPb:(2 * i+1) * (2 * i+2) <= 2 ^ 22 * 2 ^ 22:=Nat.mul_le_mul (by omega) (by omega)
      have hkk:k * k1=P:=by rw [<- hk,<- hk1,<- hP,Int.natCast_mul]
      have hP0:0 < P:=by rw [<- hP]; exact Int.natCast_pos.2 (Nat.mul_pos (by omega) (by omega))
      have hadd:IntKind.i64.wrap (k+2)=((2 * (i+1)+1:Nat):Int):=by rw [zx]; omega
      have hw1:IntKind.i64.wrap (k+1)=k1:=by rw [zx]; omega
      have hw2:IntKind.i64.wrap (k * k1)=P:=by rw [hkk,zx]; omega
      have HPL:=zc (show -(2 ^ 63) <= P by omega); have HPH:=zc (show P < 2 ^ 63 by omega)
      have dP:Wd P 1:=zbC HPL.out HPH.out
      have nzp:NZ (one * P):=⟨by have:=Int.mul_pos HOP.out hP0; omega⟩
      have hK4:(i % 2=0 -> (k.tmod 4 == 1)=true)/\(i % 2 ≠ 0 -> (k.tmod 4 == 1)=false):=by
       rw [<- hk,Int.tmod_eq_emod_of_nonneg (by omega)]
       constructor
       ·intro h; simp; omega
       ·intro h; simp; omega
      obtain ⟨S1,hS1⟩:∃ S1,(cosIt one sq (i+1)).1=S1:=⟨_,rfl⟩
      obtain ⟨S2,hS2⟩:∃ S2,(cosIt one sq (i+1)).2=S2:=⟨_,rfl⟩
      have hS1':(if i % 2=0 then (cosIt one sq i).1+(cosIt one sq i).2 else (cosIt one sq i).1 - (cosIt one sq i).2)=S1:=by rw [<- hS1]; rfl
      have HS2:=zc (show flr ((cosIt one sq i).2 * sq) (one * P)=S2 by rw [<- hS2,<- hP]; rfl)
      have HQ1:=zc hS1; have HQ2:=zc hS2
      have HS:=zc hsg; have HK4:=zc hK4; have HS1:=zc hS1'; have HIN:=zc hin; have HKI:=zc hk; have HWK:=zc hw1; have HWM:=zc hw2
      rw [hk]
      clear hpos hsg hi hin hS1 hS2 hk hk1 hP hK hPb hkk hP0 hK4 hS1' hw1 hw2
      generalize cosIt one sq i=Z at *
      by_cases hpar:i % 2=0
      ·have hk4 := HK4.out.1 hpar
       have HX:=zc (show Z.1+Z.2=S1 by rw [<- HS1.out,if_pos hpar])
       clear hpar
       go_wp2_with ((first | (go_at_call 164; refine zf (zbd (x:=Z.2)) ?_; rw [HS.out]; rintro e w1 ⟨rfl,_⟩) | (go_at_call 199; refine zf (zbm (by omega)) ?_; rintro e w1 ⟨s1,rfl,_,_⟩)))
       (have hwk:=HWK.out)
       (have hwm:=HWM.out)
       go_region_with ((first | (go_at_call 141; refine zf (zaD (by exact HPL.out) (by exact HPH.out)) ?_; rintro e w1 ⟨s1,rfl,_,_⟩) | (go_at_call 168; refine zf (zah (by omega)) ?_; rintro e w1 ⟨s1,rfl,_,_⟩) | (go_at_call 172; refine zf (zal (by omega)) ?_; rintro e w1 ⟨s1,rfl,_,_⟩)))
       all_goals clear hwk hwm
       all_goals
        go_wp2_with fail
        refine ⟨?_,?_⟩
        ·first
         | exact ⟨i+1,_,_,rfl,HIN.out,za,za,za,za,za,by rw [HQ1.out,<- HX.out]; infer_instance,by rw [HQ2.out,<- HS2.out]; infer_instance,za,za,zaa⟩
         | (
          repeat apply Exists.intro
          exact ⟨⟨i+1,_,_,rfl,HIN.out,za,za,za,za,za,by rw [HQ1.out,<- HX.out]; infer_instance,by rw [HQ2.out,<- HS2.out]; infer_instance,za,za,zaa⟩,rfl⟩)
        ·show 2 * K + 1 - (intOf (Value.int .i64 ((2 * (i + 1) + 1 : Nat) : Int))).toNat < 2 * K + 1 - (intOf (Value.int .i64 k)).toNat
         have h8:=HIN.out; have h9:=HKI.out
         simp only [intOf]; omega
      ·have hk4 := HK4.out.2 hpar
       have HX:=zc (show Z.1 - Z.2=S1 by rw [<- HS1.out,if_neg hpar])
       clear hpar
       go_wp2_with ((first | (go_at_call 164; refine zf (zbd (x:=Z.2)) ?_; rw [HS.out]; rintro e w1 ⟨rfl,_⟩) | (go_at_call 239; refine zf (zcy (by omega)) ?_; rintro e w1 ⟨s1,rfl,_,_⟩)))
       (have hwk:=HWK.out)
       (have hwm:=HWM.out)
       go_region_with ((first | (go_at_call 141; refine zf (zaD (by exact HPL.out) (by exact HPH.out)) ?_; rintro e w1 ⟨s1,rfl,_,_⟩) | (go_at_call 168; refine zf (zah (by omega)) ?_; rintro e w1 ⟨s1,rfl,_,_⟩) | (go_at_call 172; refine zf (zal (by omega)) ?_; rintro e w1 ⟨s1,rfl,_,_⟩)))
       all_goals clear hwk hwm
       all_goals
        go_wp2_with fail
        refine ⟨?_,?_⟩
        ·first
         | exact ⟨i+1,_,_,rfl,HIN.out,za,za,za,za,za,by rw [HQ1.out,<- HX.out]; infer_instance,by rw [HQ2.out,<- HS2.out]; infer_instance,za,za,zaa⟩
         | (
          repeat apply Exists.intro
          exact ⟨⟨i+1,_,_,rfl,HIN.out,za,za,za,za,za,by rw [HQ1.out,<- HX.out]; infer_instance,by rw [HQ2.out,<- HS2.out]; infer_instance,za,za,zaa⟩,rfl⟩)
        ·show 2 * K + 1 - (intOf (Value.int .i64 ((2 * (i + 1) + 1 : Nat) : Int))).toNat < 2 * K + 1 - (intOf (Value.int .i64 k)).toNat
         have h8:=HIN.out; have h9:=HKI.out
         simp only [intOf]; omega
     ·obtain rfl : i = K := by omega
      have hle:=HL.out
      have hsg:decide (0 < sgnI (cosIt one sq i).2)=false:=by unfold sgnI; simp; split <;> (try split) <;> omega
      clear hle hin hi
      go_wp2_with (go_at_call 164; refine zf (zbd) ?_; rintro e w1 ⟨rfl,_⟩)
      simp [bodyPost,results,Tryz.results248,go_sem]
      exact ⟨sA,rfl,by rw [HV.out]; infer_instance,zaa⟩
end Go.Proofs.YtombhkpniddceaaGreatDoor
