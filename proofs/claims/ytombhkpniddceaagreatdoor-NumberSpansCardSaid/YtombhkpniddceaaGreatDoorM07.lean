import Derived.Test.YtombhkpniddceaaGreatDoorM06
set_option maxHeartbeats 3200000
set_option linter.all false
namespace Go.Proofs.YtombhkpniddceaaGreatDoor
open Go.RowKit
def SRet (w:World) (a b:Nat) (e:Ending) (w':World):Prop:=∃ u0 v0 u1 v1:Nat,e = .returned (.agg #[.int .u64 (u0:Int),.int .u64 (v0:Int),.int .u64 (u1:Int),.int .u64 (v1:Int)]) /\
 (u0 < B64/\v0 < B64/\u1 < B64/\v1 < B64) /\
 (v0 ≠ 0 -> ∃ O Q:Nat,((u0 * a:Nat) - (v0 * b:Nat):Int).natAbs=O/\((u1 * a:Nat) - (v1 * b:Nat):Int).natAbs=Q/\0 < Q/\Q < O/\O <= b/\Nat.gcd O Q=Nat.gcd a b)/\Nxt w w'
theorem lead_of {a b n s:Nat} (hba:b <= a):
  ∃ ra rb,Lead a b (a * 2 ^ s / B64 ^ (n - 1)) (b * 2 ^ s / B64 ^ (n - 1)) (2 ^ s) (B64 ^ (n - 1)) ra rb:=
 ⟨a * 2 ^ s % B64 ^ (n - 1), b * 2 ^ s % B64 ^ (n - 1), by rw [Nat.div_add_mod'], by rw [Nat.div_add_mod'], Nat.mod_lt _ (Nat.pow_pos zaE), Nat.mod_lt _ (Nat.pow_pos zaE), Nat.two_pow_pos s,
  Nat.div_le_div_right (Nat.mul_le_mul_right _ hba)⟩
theorem lead_lt {a n s:Nat} (hn:2 <= n) (hlt:a * 2 ^ s < B64 ^ n):a * 2 ^ s / B64 ^ (n - 1) < B64:=by
 obtain ⟨m,rfl⟩:∃ m,n=m+2:=⟨n - 2,by omega⟩
 rw [Nat.div_lt_iff_lt_mul (Nat.pow_pos zaE)]
 show a * 2 ^ s < B64 * B64 ^ (m+1)
 rw [show B64 * B64 ^ (m+1)=B64 ^ (m+2) by rw [Nat.pow_succ B64 (m+1),zw]]; exact hlt
theorem zh3 {v:Value} {a n s X:Nat} {w:World} [h:NatIs w v a] (hn2:2 <= n) (hm:n <= MaxW) (hs:s <= 63) (hlt:a * 2 ^ s < B64 ^ n) (hX:a * 2 ^ s / B64 ^ (n - 1)=X):
  Calls Tryz.prog 291 #[v,.int .i64 (n:Int),.int .i64 (s:Int)] w (PRet w (.int .u64 (X:Int))):=by
 subst hX
 exact zlO hn2 hm hs hlt
def StepRel (a b X Y g:Nat) (w:World) (s6 s7 s9 s10:Value) (wr:World):Prop:=
 ∃ x y u0 u1 u2 v0 v1 v2:Nat,∃ s P R:Int,s6 = .int .u64 (x:Int)/\s7 = .int .u64 (y:Int)/\s9 = .int .u64 (u2:Int)/\s10 = .int .u64 (v2:Int) /\
  LInv a b X Y x y u0 u1 u2 v0 v1 v2 s P R/\(u0 < B64/\v0 < B64/\u1 < B64/\v1 < B64)/\x < B64 /\
  Blk wr g 267 #[.int .u64 (u0:Int),.int .u64 (v0:Int),.int .u64 (u1:Int),.int .u64 (v1:Int)]/\Nxt w wr
theorem zk3 {v1 v2:Value} {a b k:Nat} {w:World} [h1:NatIs w v1 a] [h2:NatIs w v2 b] [d1:WdN a k] (hk:k <= 2 ^ 40) (hba:b <= a) (hb:2 <= wl b):
  Calls Tryz.prog 261 #[v1,v2] w (SRet w a b):=by
 have hn:2 <= wl a:=zo hb (zar hba)
 have ha0:a ≠ 0:=by rintro rfl; rw [zbE] at hn; omega
 obtain ⟨x,hx,hx0⟩:∃ x,(limbs a)[wl a - 1]?=some x/\x < B64:=by
  have:=zlN (a:=a) (i:=wl a - 1) (by omega)
  exact ⟨_,this,Nat.mod_lt _ zaE⟩
 obtain ⟨hbw,hxn⟩:=zho (k:=wl a - 1) hx (by rw [ze5]; omega)
 have hbx:=zco hxn
 have hbx64:bl x <= 64:=bl_le (by rw [<- zbv]; exact hx0)
 obtain ⟨s,hs⟩:∃ s:Nat,s=wl a * 64 - bl a:=⟨_,rfl⟩
 have hs63:s <= 63:=by omega
 have hsum:bl a+s=64 * wl a:=by omega
 have hlt:a * 2 ^ s < B64 ^ wl a:=by
  have h:=(zco ha0).2.2
  have:B64 ^ wl a=2 ^ bl a * 2 ^ s:=by rw [<- Nat.pow_add,hsum,zbv,<- Nat.pow_mul]
  rw [this]
  exact Nat.mul_lt_mul_of_pos_right h (Nat.two_pow_pos s)
 have hltb:b * 2 ^ s < B64 ^ wl a:=Nat.lt_of_le_of_lt (Nat.mul_le_mul_right _ hba) hlt
 obtain ⟨ra,rb,L⟩:=lead_of (n:=wl a) (s:=s) hba
 have hX:=lead_lt hn hlt
 have hw64:IntKind.i64.wrap ((wl a:Int) * 64 - (bl a:Int))=(s:Int):=by have:=d1.out; rw [zx]; omega
 have hw65:IntKind.i64.wrap ((wl a:Int) * 64)=(wl a:Int) * 64:=by have:=d1.out; rw [zx]; omega
 have hkM:wl a <= MaxW:=by have:=d1.out; unfold MaxW; omega
 have hbM:Wd (bl a:Int) 1:=⟨zaf (by have:=d1.out; unfold B64; simp; omega)⟩
 obtain ⟨A,c,rfl,h11,h12,h13⟩:=h1
 have H1:NatIs w (.slice A (wl a) c) a:=⟨A,c,rfl,h11,h12,h13⟩
 rw [ze5]
 obtain ⟨t2,rfl⟩:=h2.form
 generalize hXe:a * 2 ^ s / B64 ^ (wl a - 1)=X at *
 generalize hYe:b * 2 ^ s / B64 ^ (wl a - 1)=Y at *
 have HXe:=zc hXe; have HYe:=zc hYe; have HL:=zc L; have HX:=zc hX; have HA:=zc hlt; have HB:=zc hltb; have HN:=zc hn; have HS:=zc hs63; have HM:=zc hkM; have HBA:=zc hba
 have hbl:Nat.le (bl a) (2 ^ 47):=by have:=d1.out; show bl a <= 2 ^ 47; omega
 have hwl:wl a <= 2 ^ 40:=by have:=d1.out; omega
 clear h11 h12 h13 hXe hYe L hX hlt hltb hn hs63 hkM hba hb hbw hbx hbx64 hx hx0 hxn ha0 hsum hs
 generalize wl a=n at *
 go_enter Tryz.func261,Tryz.ntmps261
 go_wp2_with ((first
  | (go_at_call 230; refine zf (zb0 (a:=k) (by unfold MaxW; omega) rfl) ?_; rintro e w1 ⟨rfl,rfl⟩)
  | (go_at_call 291; refine zf (zh3 HN.out HM.out HS.out HA.out HXe.out) ?_; rintro e w1 ⟨rfl,_⟩)
  | (go_at_call 291; refine zf (zh3 HN.out HM.out HS.out HB.out HYe.out) ?_; rintro e w1 ⟨rfl,_⟩)))
 go_loopw [6,7,9,10] (fun s6 s7 s9 s10 wr=>StepRel a b X Y w1.heap.size w1 s6 s7 s9 s10 wr) (fun _ s7 _ _ _=>(intOf s7).toNat)
 case atStart=>exact ⟨X,Y,0,1,0,0,0,1,1,a,b,rfl,rfl,rfl,rfl,LInv.start HL.out.hXY,by unfold B64; omega,HX.out,za,zaa⟩
 case round=>
  obtain ⟨x,y,u0,u1,u2,v0,v1,v2,sg,P,R,rfl,rfl,rfl,rfl,hI,hB,hx,_,_⟩:=hrel
  have hyx:=hI.hyx
  have hv1:=hI.hv
  by_cases c1:v2 <= y
  ·have hsm := hI.small2 (by omega)
   have hX:=HX.out
   have hw1:IntKind.u64.wrap ((x:Int) - (y:Int))=((x - y:Nat):Int):=by rw [IntKind.wrap_u64]; unfold B64 at hx; omega
   have hw2:IntKind.u64.wrap ((v1:Int)+(v2:Int))=((v1+v2:Nat):Int):=by rw [IntKind.wrap_u64]; unfold B64 at hX; omega
   have d1:decide ((v2:Int) <= (y:Int))=true:=by simp; omega
   by_cases c2:v1+v2 <= x - y
   ·have d2 : decide (((v1 + v2 : Nat) : Int) <= ((x - y : Nat) : Int)) = true := by simp; omega
    have hJ:=hI.step HL.out c1 c2
    have hsj:=hJ.small (by omega)
    have hr:=Nat.mod_lt x (show 0 < y by omega)
    clear hsm
    have hwq:IntKind.u64.wrap ((x:Int) / (y:Int))=((x / y:Nat):Int):=by
     have:=Nat.div_le_self x y
     rw [<- Int.natCast_ediv]; exact wrapu (by unfold B64 at hx ⊢; omega)
    generalize hq:x / y=q at *
    have hq2:x % y=x % y:=rfl
    have hm1:IntKind.u64.wrap ((q:Int) * (u2:Int))=((q * u2:Nat):Int):=by rw [<- Int.natCast_mul]; exact wrapu (by omega)
    have hm2:IntKind.u64.wrap ((q:Int) * (v2:Int))=((q * v2:Nat):Int):=by rw [<- Int.natCast_mul]; exact wrapu (by omega)
    have hm3:IntKind.u64.wrap ((u1:Int)+((q * u2:Nat):Int))=((u1+q * u2:Nat):Int):=by rw [<- Int.natCast_add]; exact wrapu (by omega)
    have hm4:IntKind.u64.wrap ((v1:Int)+((q * v2:Nat):Int))=((v1+q * v2:Nat):Int):=by rw [<- Int.natCast_add]; exact wrapu (by omega)
    have hsm2:=hI.small (by omega)
    have hb2:u1 < B64/\v1 < B64/\u2 < B64/\v2 < B64:=⟨hB.2.2.1,hB.2.2.2,by omega,by omega⟩
    have HQ:=zc hwq; have M1:=zc hm1; have M2:=zc hm2; have M3:=zc hm3; have M4:=zc hm4; have HJ:=zc hJ
    have hym:decide ((y:Int)=0)=false:=by simp; omega
    have hym':((y:Int) == 0)=false:=by simp; omega
    clear hwq hm1 hm2 hm3 hm4 hJ hsj hsm2 hq2
    go_wp2_with fail
    go_quiet (fail)
    go_wp2_with fail
    rw [HQ.out,M1.out,M2.out,M3.out,M4.out]
    exact ⟨⟨y,x % y,u1,u2,u1+q * u2,v1,v2,v1+q * v2,-sg,R,P - q * R,rfl,by rw [Int.natCast_emod],rfl,rfl,HJ.out,hb2,by omega,za,zaa⟩,by rw [<- Int.natCast_emod]; simp only [intOf]; omega⟩
   ·have d2 : decide ((v1 : Int) + (v2 : Int) <= ((x - y : Nat) : Int)) = false := by simp; omega
    have HI:=zc hI
    clear hsm hI hv1 hX
    go_wp2_with fail
    refine bodyPost_ret (v := .agg #[.int .u64 (u0:Int),.int .u64 (v0:Int),.int .u64 (u1:Int),.int .u64 (v1:Int)]) ?_ rfl ?_
    ·simp [results,Tryz.results261,go_sem]
    ·exact ⟨u0,v0,u1,v1,rfl,hB,fun h=>HI.out.made h,zaa⟩
  ·have d1 : decide ((v2 : Int) <= (y : Int)) = false := by simp; omega
   have HI:=zc hI
   clear hI hv1
   go_wp2_with fail
   refine bodyPost_ret (v := .agg #[.int .u64 (u0:Int),.int .u64 (v0:Int),.int .u64 (u1:Int),.int .u64 (v1:Int)]) ?_ rfl ?_
   ·simp [results,Tryz.results261,go_sem]
   ·exact ⟨u0,v0,u1,v1,rfl,hB,fun h=>HI.out.made h,zaa⟩
theorem NatIs.len' {w:World} {s:NV} {n:Nat} (h:NatIs w s.v n):s.k=wl n:=(NatIs.len h).1
noncomputable def natOf (w:World) (v:Value):Nat:=Classical.epsilon fun n=>NatIs w v n
theorem zbY {w:World} {v:Value} {n:Nat} (h:NatIs w v n):natOf w v=n:=NatIs.unique (Classical.epsilon_spec (p:=fun n=>NatIs w v n) ⟨n,h⟩) h
def zob (n m L:Nat) (w:World) (s0 s1:Value) (wr:World):Prop:=
 ∃ (s t:NV) (n' m':Nat),s0=s.v/\s1=t.v/\NatIs wr s.v n'/\NatIs wr t.v m'/\m' <= n'/\Nat.gcd n' m'=Nat.gcd n m/\wl n' <= L/\Nxt w wr
theorem zhS {s1 s2:NV} {n m L:Nat} {w:World} [h1:NatIs w s1.v n] [h2:NatIs w s2.v m] [d1:WdN n L] [d2:WdN m L] (hL:L+L+L+L+9 <= 2 ^ 40):
  Calls Tryz.prog 229 #[s1.v,s2.v] w (NRet w (Nat.gcd n m)):=by
 have hL40:L <= 2 ^ 40:=by omega
 have hLM:L+L+L+L+9 <= MaxW:=hL
 rcases Nat.lt_or_ge n m with hlt | hge
 ·have HC := zc (zb7 hlt)
  have HLE:=zc (Nat.le_of_lt hlt)
  have HLa:=zc d2.out
  clear hlt hL
  go_enter Tryz.func229,Tryz.ntmps229
  go_wp2_with (go_at_call 232; refine zf (zcb (by omega) HC.out) ?_; rintro e w1 ⟨rfl,_⟩)
  go_loopw [0,1] (fun s0 s1 wr=>zob n m L w s0 s1 wr) (fun _ s1 wr=>natOf wr s1)
  case atStart=>first | exact ⟨_,_,_,_,rfl,rfl,za,za,HLE.out,rfl,HLa.out,zaa⟩ | exact ⟨_,_,_,_,rfl,rfl,za,za,HLE.out,Nat.gcd_comm _ _,HLa.out,zaa⟩
  case round=>
   obtain ⟨s,t,n',m',rfl,rfl,i1,i2,hle,hg,hw,_⟩:=hrel
   have hmw:wl m' <= L:=zo (zar hle) hw
   have e1:WdN n' L:=⟨hw⟩
   have e2:WdN m' L:=⟨hmw⟩
   have hk:=i2.len'
   have HG:=zc hg; have HLE2:=zc hle
   by_cases hbig:1 < wl m'
   ·have hb2 : 2 <= wl m' := hbig
    have hm0:m' ≠ 0:=by rintro rfl; rw [zbE] at hb2; omega
    have HM0:=zc hm0; have HB2:=zc hb2
    have hc:decide ((1:Int) < (t.k:Int))=true:=by rw [hk]; simp; omega
    have hN:=zbY i2
    have HNO:=zc hN
    clear hbig hb2 hm0 hk hg hle hw hmw hN
    go_wp2_with fail
    refine zf (zk3 (k:=L) hL40 HLE2.out HB2.out) ?_
    rintro e w5 ⟨u0,v0,u1,v1,rfl,⟨hu0,hv0,hu1,hv1⟩,hst,_⟩
    have HST:=zc hst
    clear hst
    by_cases hz:v0=0
    ·subst hz
     clear HST
     go_wp2_with (go_at_call 262; refine zf (zfv (by omega) HM0.out) ?_; rintro e w1 ⟨s3,s4,rfl,_,_,_⟩)
     go_roundw
     case rel=>exact ⟨t,s4,m',n' % m',rfl,rfl,za,za,Nat.le_of_lt (Nat.mod_lt _ (Nat.pos_of_ne_zero HM0.out)),by rw [<- HG.out,Nat.gcd_comm n' m',Nat.gcd_rec m' n',Nat.gcd_comm],e2.out,zaa⟩
     case measure=>rw [zbY (n:=n' % m') za,HNO.out]; exact Nat.mod_lt _ (Nat.pos_of_ne_zero HM0.out)
    ·obtain ⟨O, Q, hO, hQ, hQ0, hQO, hQm, hgq⟩ := HST.out hz
     have hvz:((v0:Int) == 0)=false:=by simp; omega
     have HO:=zc hO; have HQ:=zc hQ; have HQ1:=zc hQO; have HQ2:=zc (Nat.lt_of_lt_of_le hQO hQm); have HGQ:=zc hgq
     have hOw:wl O <= L:=zo (zar hQm) e2.out
     clear HST hvz hO hQ hQ0 hQO hQm hgq
     go_wp2_with fail
     (refine Code.nameW ?_; intro W hW; go_region_held3 (fun w'=>ButO W [] w') (exact zab) ((first | (go_at_call 263; refine zf (ziy (by omega) (by assumption) (by assumption)) ?_; rintro e w6 ⟨s6,rfl,_,_⟩))))
     all_goals go_wp2_with fail
     all_goals
      go_roundw
      case rel=>exact ⟨_,_,O,Q,rfl,rfl,by rw [<- HO.out]; infer_instance,by rw [<- HQ.out]; infer_instance,Nat.le_of_lt HQ1.out,by rw [HGQ.out,HG.out],hOw,zaa⟩
      case measure=>rw [zbY (n:=Q) (by rw [<- HQ.out]; infer_instance),HNO.out]; exact HQ2.out
   ·have hc : decide ((1 : Int) < (t.k : Int)) = false := by rw [hk]; simp; omega
    by_cases hz:m'=0
    ·subst hz
     have hk0:t.k=0:=by rw [hk,zbE]
     have he:((t.k:Int) == 0)=true:=by rw [hk0]; rfl
     have hG:Nat.gcd n m=n':=by rw [<- hg,Nat.gcd_zero_right]
     have HGG:=zc hG
     clear hbig hk hg hle hw hmw hG
     go_wp2_with fail
     go_ret
     exact ⟨s,rfl,by rw [HGG.out]; infer_instance,zaa⟩
    ·have hml:m' < B64:=by
      have h1:=zaz m'
      exact Nat.lt_of_lt_of_le h1 (by have:=zaV (show wl m' <= 1 by omega); rwa [Nat.pow_one] at this)
     have hlb:=zcl hz hml
     obtain ⟨A,c,e,i21,i22,i23⟩:=i2
     rw [hlb] at i21 i23
     obtain ⟨ad,x,rfl,hadl,hcx,_,HX⟩:=i23.get (k:=0) (by simp)
     obtain rfl:x=m':=(zl HX.out).symm
     obtain ⟨tA,tk,tc⟩:=t
     obtain ⟨rfl,rfl,rfl⟩:tA=some ad/\tk=1/\tc=c:=by
      rw [hlb] at e
      simp only [NV.v,List.length_singleton] at e
      injection e with e1 e2 e3
      exact ⟨e1,e2,e3⟩
     have hrl:n' % x < B64:=Nat.lt_of_lt_of_le (Nat.mod_lt _ (Nat.pos_of_ne_zero hz)) (Nat.le_of_lt hml)
     have hG:Nat.gcd x (n' % x)=Nat.gcd n m:=by rw [<- hg,Nat.gcd_comm n' x,Nat.gcd_rec x n',Nat.gcd_comm]
     have hg0:Nat.gcd n m ≠ 0:=by rw [<- hg]; exact fun h=>hz (Nat.eq_zero_of_gcd_eq_zero_right h)
     have hgl:Nat.gcd n m < B64:=by rw [<- hg]; exact Nat.lt_of_le_of_lt (Nat.le_of_dvd (Nat.pos_of_ne_zero hz) (Nat.gcd_dvd_right n' x)) hml
     have HGG:=zc hG; have HG0:=zc hg0; have HGL:=zc hgl; have HR:=zc hrl; have HML:=zc hml; have HZ:=zc (Nat.pos_of_ne_zero hz)
     have hcx':wr.cell? ad=some (.int .u64 (x:Int)):=hcx
     have HCX:Hid (∀ w9,Nxt wr w9 -> w9.cell? ad=some (.int .u64 (x:Int))):=fun w9 h=>by rw [h.out.cell hadl]; exact hcx
     clear hbig hk hg hle hw hmw hG hg0 hgl hrl hml hz hlb HX i21 i22 i23 hadl hc e hcx
     go_wp2_with fail
     refine zf (zdP (n:=n') (t:=x) (a:=L) (by omega) HZ.out HML.out rfl) ?_
     rintro e w2 ⟨s2,rfl,_,hn2⟩
     have hcx2:=HCX.out w2 hn2
     go_wp2_with (go_at_call 264; refine zf (zeB x (n' % x) _ HML.out HR.out) ?_; rintro e w3 ⟨rfl,hd3⟩; have _i:Nxt w2 w3:=⟨hd3.below _⟩)
     go_ret
     exact ⟨⟨_,_,_⟩,rfl,by rw [HGG.out]; exact zfx HG0.out HGL.out,zaa⟩
 ·obtain ⟨t,ht⟩:∃ t:Nat,cmpN n m=t:=by
   rcases Nat.lt_or_ge m n with h | h
   ·exact ⟨1,by rw [zbR h]; rfl⟩
   ·exact ⟨0,by rw [show n=m by omega,zbS]; rfl⟩
  have HC:=zc ht
  have HLE:=zc hge
  have HLa:=zc d1.out
  clear hge hL ht
  go_enter Tryz.func229,Tryz.ntmps229
  go_wp2_with (go_at_call 232; refine zf (zcb (by omega) HC.out) ?_; rintro e w1 ⟨rfl,_⟩)
  go_loopw [0,1] (fun s0 s1 wr=>zob n m L w s0 s1 wr) (fun _ s1 wr=>natOf wr s1)
  case atStart=>first | exact ⟨_,_,_,_,rfl,rfl,za,za,HLE.out,rfl,HLa.out,zaa⟩ | exact ⟨_,_,_,_,rfl,rfl,za,za,HLE.out,Nat.gcd_comm _ _,HLa.out,zaa⟩
  case round=>
   obtain ⟨s,t,n',m',rfl,rfl,i1,i2,hle,hg,hw,_⟩:=hrel
   have hmw:wl m' <= L:=zo (zar hle) hw
   have e1:WdN n' L:=⟨hw⟩
   have e2:WdN m' L:=⟨hmw⟩
   have hk:=i2.len'
   have HG:=zc hg; have HLE2:=zc hle
   by_cases hbig:1 < wl m'
   ·have hb2 : 2 <= wl m' := hbig
    have hm0:m' ≠ 0:=by rintro rfl; rw [zbE] at hb2; omega
    have HM0:=zc hm0; have HB2:=zc hb2
    have hc:decide ((1:Int) < (t.k:Int))=true:=by rw [hk]; simp; omega
    have hN:=zbY i2
    have HNO:=zc hN
    clear hbig hb2 hm0 hk hg hle hw hmw hN
    go_wp2_with fail
    refine zf (zk3 (k:=L) hL40 HLE2.out HB2.out) ?_
    rintro e w5 ⟨u0,v0,u1,v1,rfl,⟨hu0,hv0,hu1,hv1⟩,hst,_⟩
    have HST:=zc hst
    clear hst
    by_cases hz:v0=0
    ·subst hz
     clear HST
     go_wp2_with (go_at_call 262; refine zf (zfv (by omega) HM0.out) ?_; rintro e w1 ⟨s3,s4,rfl,_,_,_⟩)
     go_roundw
     case rel=>exact ⟨t,s4,m',n' % m',rfl,rfl,za,za,Nat.le_of_lt (Nat.mod_lt _ (Nat.pos_of_ne_zero HM0.out)),by rw [<- HG.out,Nat.gcd_comm n' m',Nat.gcd_rec m' n',Nat.gcd_comm],e2.out,zaa⟩
     case measure=>rw [zbY (n:=n' % m') za,HNO.out]; exact Nat.mod_lt _ (Nat.pos_of_ne_zero HM0.out)
    ·obtain ⟨O, Q, hO, hQ, hQ0, hQO, hQm, hgq⟩ := HST.out hz
     have hvz:((v0:Int) == 0)=false:=by simp; omega
     have HO:=zc hO; have HQ:=zc hQ; have HQ1:=zc hQO; have HQ2:=zc (Nat.lt_of_lt_of_le hQO hQm); have HGQ:=zc hgq
     have hOw:wl O <= L:=zo (zar hQm) e2.out
     clear HST hvz hO hQ hQ0 hQO hQm hgq
     go_wp2_with fail
     (refine Code.nameW ?_; intro W hW; go_region_held3 (fun w'=>ButO W [] w') (exact zab) ((first | (go_at_call 263; refine zf (ziy (by omega) (by assumption) (by assumption)) ?_; rintro e w6 ⟨s6,rfl,_,_⟩))))
     all_goals go_wp2_with fail
     all_goals
      go_roundw
      case rel=>exact ⟨_,_,O,Q,rfl,rfl,by rw [<- HO.out]; infer_instance,by rw [<- HQ.out]; infer_instance,Nat.le_of_lt HQ1.out,by rw [HGQ.out,HG.out],hOw,zaa⟩
      case measure=>rw [zbY (n:=Q) (by rw [<- HQ.out]; infer_instance),HNO.out]; exact HQ2.out
   ·have hc : decide ((1 : Int) < (t.k : Int)) = false := by rw [hk]; simp; omega
    by_cases hz:m'=0
    ·subst hz
     have hk0:t.k=0:=by rw [hk,zbE]
     have he:((t.k:Int) == 0)=true:=by rw [hk0]; rfl
     have hG:Nat.gcd n m=n':=by rw [<- hg,Nat.gcd_zero_right]
     have HGG:=zc hG
     clear hbig hk hg hle hw hmw hG
     go_wp2_with fail
     go_ret
     exact ⟨s,rfl,by rw [HGG.out]; infer_instance,zaa⟩
    ·have hml:m' < B64:=by
      have h1:=zaz m'
      exact Nat.lt_of_lt_of_le h1 (by have:=zaV (show wl m' <= 1 by omega); rwa [Nat.pow_one] at this)
     have hlb:=zcl hz hml
     obtain ⟨A,c,e,i21,i22,i23⟩:=i2
     rw [hlb] at i21 i23
     obtain ⟨ad,x,rfl,hadl,hcx,_,HX⟩:=i23.get (k:=0) (by simp)
     obtain rfl:x=m':=(zl HX.out).symm
     obtain ⟨tA,tk,tc⟩:=t
     obtain ⟨rfl,rfl,rfl⟩:tA=some ad/\tk=1/\tc=c:=by
      rw [hlb] at e
      simp only [NV.v,List.length_singleton] at e
      injection e with e1 e2 e3
      exact ⟨e1,e2,e3⟩
     have hrl:n' % x < B64:=Nat.lt_of_lt_of_le (Nat.mod_lt _ (Nat.pos_of_ne_zero hz)) (Nat.le_of_lt hml)
     have hG:Nat.gcd x (n' % x)=Nat.gcd n m:=by rw [<- hg,Nat.gcd_comm n' x,Nat.gcd_rec x n',Nat.gcd_comm]
     have hg0:Nat.gcd n m ≠ 0:=by rw [<- hg]; exact fun h=>hz (Nat.eq_zero_of_gcd_eq_zero_right h)
     have hgl:Nat.gcd n m < B64:=by rw [<- hg]; exact Nat.lt_of_le_of_lt (Nat.le_of_dvd (Nat.pos_of_ne_zero hz) (Nat.gcd_dvd_right n' x)) hml
     have HGG:=zc hG; have HG0:=zc hg0; have HGL:=zc hgl; have HR:=zc hrl; have HML:=zc hml; have HZ:=zc (Nat.pos_of_ne_zero hz)
     have hcx':wr.cell? ad=some (.int .u64 (x:Int)):=hcx
     have HCX:Hid (∀ w9,Nxt wr w9 -> w9.cell? ad=some (.int .u64 (x:Int))):=fun w9 h=>by rw [h.out.cell hadl]; exact hcx
     clear hbig hk hg hle hw hmw hG hg0 hgl hrl hml hz hlb HX i21 i22 i23 hadl hc e hcx
     go_wp2_with fail
     refine zf (zdP (n:=n') (t:=x) (a:=L) (by omega) HZ.out HML.out rfl) ?_
     rintro e w2 ⟨s2,rfl,_,hn2⟩
     have hcx2:=HCX.out w2 hn2
     go_wp2_with (go_at_call 264; refine zf (zeB x (n' % x) _ HML.out HR.out) ?_; rintro e w3 ⟨rfl,hd3⟩; have _i:Nxt w2 w3:=⟨hd3.below _⟩)
     go_ret
     exact ⟨⟨_,_,_⟩,rfl,by rw [HGG.out]; exact zfx HG0.out HGL.out,zaa⟩
theorem zlA {v1 v2:Value} {n m a b:Nat} {w:World} [h1:NatIs w v1 n] [h2:NatIs w v2 m] [d1:WdN n a] [d2:WdN m b] (h:a+b <= 2 ^ 37):
  Calls Tryz.prog 229 #[v1,v2] w (NRet w (Nat.gcd n m)):=by
 obtain ⟨s1,rfl⟩:=h1.form
 obtain ⟨s2,rfl⟩:=h2.form
 have e1:WdN n (a+b):=⟨by have:=d1.out; omega⟩
 have e2:WdN m (a+b):=⟨by have:=d2.out; omega⟩
 exact zhS (L:=a+b) (by omega)
end Go.Proofs.YtombhkpniddceaaGreatDoor
