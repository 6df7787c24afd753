import Derived.Test.YtombhkpniddceaaGreatDoorM02
import Derived.Deep.RegionHeld3
set_option maxHeartbeats 3200000
set_option linter.all false
namespace Go.Proofs.YtombhkpniddceaaGreatDoor
open Go.RowKit
theorem za7 (v1 v2:Value) (a b:Nat) (w:World) (h1:NatIs w v1 a) (h2:NatIs w v2 b) (ha:wl a <= MaxW) (hb:wl b <= MaxW):
  Calls Tryz.prog 232 #[v1,v2] w fun e w'=>e = .returned (.int .i64 (cmpN a b))/\Drew w w':=by
 obtain ⟨A,c,rfl,h11,h12,h13⟩:=h1
 obtain ⟨B,d,rfl,h21,h22,h23⟩:=h2
 exact zhk A B c d a b w h13 h23 ha hb
theorem NatIs.drewD {w w':World} {v:Value} {n:Nat} (h:NatIs w v n) (k:Drew w w'):NatIs w' v n:=h.below (k.below _)
theorem zjS {w:World} {r:Nat} (hr:r < B64):WordsAt (w.alloc (.cells #[.int .u64 (r:Int)] 220)) (some ⟨w.heap.size,0,none⟩) [r]:=by
 have hb:Buf (w.alloc (.cells #[.int .u64 (r:Int)] 220)) w.heap.size [r]:=⟨by simpa using hr,[],heap_alloc_new w _⟩
 have:=hb.words 0 1
 simpa using this
theorem zma (v1 v2:Value) (a b:Nat) (w:World) (h1:NatIs w v1 a) (h2:NatIs w v2 b) (ha:wl a <= MaxW) (hb:wl b <= MaxW) (hlt:a < b):
  Calls Tryz.prog 262 #[v1,v2] w fun e w'=>∃ v v',e = .returned (.tuple #[v,v'])/\NatIs w' v (a / b)/\NatIs w' v' (a % b)/\Below w.heap.size w w':=by
 have hc:=za7 v1 v2 a b w h1 h2 ha hb
 rw [zb7 hlt] at hc
 obtain ⟨A,c,rfl,h11,h12,h13⟩:=h1
 obtain ⟨B,d,rfl,h21,h22,h23⟩:=h2
 have HN:Hid (NatIs w (.slice A (limbs a).length c) a):=⟨A,c,rfl,h11,h12,h13⟩
 rw [Nat.div_eq_of_lt hlt,Nat.mod_eq_of_lt hlt]
 generalize (limbs a).length=n at *
 generalize (limbs b).length=m at *
 clear h13 h23 ha hb hlt
 go_enter Tryz.func262,Tryz.ntmps262
 go_wp2_with fail
 refine hc.mono ?_
 rintro e w1 ⟨rfl,hd⟩
 go_wp2_with fail
 go_ret2
 exact ⟨_,_,rfl,NatIs.zero _,HN.out.drewD hd,hd.below _⟩
theorem znv (v1 v2:Value) (a b:Nat) (w:World) (h1:NatIs w v1 a) (h2:NatIs w v2 b) (ha:wl a <= MaxW) (hb:wl b=1) (hlt:b <= a):
  Calls Tryz.prog 262 #[v1,v2] w fun e w'=>∃ v v',e = .returned (.tuple #[v,v'])/\NatIs w' v (a / b)/\NatIs w' v' (a % b)/\Below w.heap.size w w':=by
 have hc:=za7 v1 v2 a b w h1 h2 ha (by rw [hb]; unfold MaxW; omega)
 have hcc:∃ z:Int,cmpN a b=z/\0 <= z/\z <= 1:=by
  rcases Nat.lt_or_ge b a with h | h
  ·exact ⟨1,zbR h,by omega,by omega⟩
  ·obtain rfl : a = b := by omega
   exact ⟨0,zbS a,by omega,by omega⟩
 obtain ⟨z,hz,hz0,hz1⟩:=hcc
 rw [hz] at hc
 have HN:=zc h1
 have hb0:b ≠ 0:=by rintro rfl; rw [zbE] at hb; omega
 have hbl:b < B64:=by have:=zaz b; rw [hb,Nat.pow_one] at this; exact this
 have hlb:limbs b=[b]:=by
  have:limbs (b+B64 * 0)=b :: limbs 0:=zcx hbl (by omega)
  rw [Nat.mul_zero,Nat.add_zero,zao] at this
  exact this
 obtain ⟨B,d,rfl,h21,h22,h23⟩:=h2
 rw [hlb] at h21 h23
 obtain ⟨ad,x,rfl,hadl,hcx,_,HX⟩:=h23.get (k:=0) (by simp)
 obtain rfl:x=b:=(zl HX.out).symm
 rw [hlb,show [x].length=1 from rfl] at hc ⊢
 have HA:=zc ha
 clear hz hb hlt HX hlb h1 ha
 go_enter Tryz.func262,Tryz.ntmps262
 go_wp2_with fail
 refine hc.mono ?_
 rintro e w1 ⟨rfl,hd⟩
 have hcx1:w1.cell? ad=some (.int .u64 (x:Int)):=by obtain ⟨_,rfl⟩:=hd; exact hcx
 have HD:=zc hd
 clear hc hcx hd
 go_wp2_with fail
 refine (zfw v1 a x _ (HN.out.drewD HD.out) HA.out (Nat.pos_of_ne_zero hb0) hbl).mono ?_
 rintro e w2 ⟨v,rfl,hv,hbe⟩
 have hrl:a % x < B64:=Nat.lt_of_lt_of_le (Nat.mod_lt _ (Nat.pos_of_ne_zero hb0)) (Nat.le_of_lt hbl)
 have HV:=zc hv; have HBE:=zc hbe
 clear hv hbe
 generalize hrr:a % x=r at *
 have HR:=zc hrr
 clear hrr
 go_wp2_with fail
 have c3:=zaK (some ⟨w2.heap.size,0,none⟩) 1 [r] _ (zjS (w:=w2) hrl) (by simp) (by unfold maxLen; omega) r (zbV r)
 refine c3.mono ?_
 rintro e w3 ⟨v',rfl,hv',rfl⟩
 go_wp2_with fail
 go_ret2
 have h1:Below w.heap.size w w2:=(HD.out.below _).trans (HBE.out.mono (by rw [HD.out.size]; exact zv _))
 exact ⟨v,v',rfl,HV.out.below ((Below.refl _ _).alloc (zv _) _),by rw [HR.out]; exact hv',h1.alloc h1.size _⟩
theorem zjA {n:Nat} (h:n ≠ 0):∃ k x,wl n=k+1/\(limbs n)[k]?=some x/\0 < x/\x < B64/\bl n=64 * k+bl x:=by
 obtain ⟨k,hk⟩:∃ k,wl n=k+1:=⟨wl n - 1,by have:=ze4 h; omega⟩
 have hlt:k < (limbs n).length:=by show k < wl n; omega
 have hx:=zg hlt
 obtain ⟨h1,h2⟩:=zho hx hk
 exact ⟨k,_,hk,hx,by omega,zcI n _ (List.getElem_mem hlt),h1⟩
theorem zmH {b k x:Nat} (hk:wl b=k+1) (hbl:bl b=64 * k+bl x) (hxl:x < B64):wl (b * 2 ^ (64 - bl x))=k+1:=by
 apply Nat.le_antisymm
 ·apply zaf
  have h1:=zfB b
  have h2:=bl_le (k:=64) (n:=x) hxl
  have e:B64 ^ (k+1)=2 ^ bl b * 2 ^ (64 - bl x):=by rw [zbv,<- Nat.pow_mul,<- Nat.pow_add,hbl]; congr 1; omega
  rw [e]
  exact Nat.mul_lt_mul_of_pos_right h1 (Nat.two_pow_pos _)
 ·rw [<- hk]
  exact zar (Nat.le_mul_of_pos_right _ (Nat.two_pow_pos _))
theorem znx (A:Option Addr) (bd:Addr) (a b c d la k q x:Nat) (z:Int) (w:World) (H1:Hid (NatIs w (.slice A la c) a)) (H2:Hid (NatIs w (.slice (some bd) (k+1) d) b))
  (HLA:Hid (wl a=la)) (HK:Hid (wl b=k+1)) (HB0:Hid (b ≠ 0)) (HBL:Hid (bl b=64 * k+bl x)) (hxl:x < B64) (hk1':1 <= k) (hq:la=q+k) (hq1:1 <= q) (ha:la <= MaxW)
  (hcx:w.cell? (bd.add k)=some (.int .u64 (x:Int))) (hz0:0 <= z) (hz1:z <= 1)
  (hc:Calls Tryz.prog 232 #[.slice A la c,.slice (some bd) (k+1) d] w fun e w'=>e = .returned (.int .i64 z)/\Drew w w'):
  Calls Tryz.prog 262 #[.slice A la c,.slice (some bd) (k+1) d] w fun e w'=>∃ v v',e = .returned (.tuple #[v,v'])/\NatIs w' v (a / b)/\NatIs w' v' (a % b)/\Below w.heap.size w w':=by
 have HA:Hid (la <= MaxW):=ha
 unfold MaxW at ha
 have hmk1:∀ w:World,(Instr.makeSlice 96 (.int .i64 ((la:Int)+1)) (.int .i64 ((la:Int)+1))).run Tryz.prog w = .ok (.slice (some ⟨w.heap.size,0,none⟩) (la+1) (la+1)) (w.alloc (za6 (la+1))):=zew (la+1) (by omega)
 have hmk2:∀ w:World,(Instr.makeSlice 96 (.int .i64 ((la:Int) - ((k:Int)+1)+1)) (.int .i64 ((la:Int) - ((k:Int)+1)+1))).run Tryz.prog w = .ok (.slice (some ⟨w.heap.size,0,none⟩) q q) (w.alloc (za6 q)):=by
  rw [show (la:Int) - ((k:Int)+1)+1=(q:Int) by omega]; exact zew q (by omega)
 have HQ:=zc hq
 have hqk:k+1 <= la:=by omega
 have hq2:q <= la:=by omega
 clear hq
 have hxb:=bl_le (k:=64) (n:=x) hxl
 have hk1:(((k:Int)+1) == 1)=false:=by simp; omega
 go_enter Tryz.func262,Tryz.ntmps262
 go_wp2_with fail
 refine hc.mono ?_
 rintro e w1 ⟨rfl,hd⟩
 have hcx1:w1.cell? (bd.add k)=some (.int .u64 (x:Int)):=by obtain ⟨_,rfl⟩:=hd; exact hcx
 have HD:=zc hd
 clear hc hcx hd
 go_wp2_with (go_at_call 265; refine (zcY x hxl _).mono ?_; rintro e w' ⟨rfl,rfl⟩)
 obtain ⟨s,hs⟩:∃ s:Nat,s=64 - bl x:=⟨_,rfl⟩
 have hs64:s <= MaxW:=by unfold MaxW; omega
 rw [show (64:Int) - (bl x:Int)=(s:Int) by omega]
 have HS:=zc hs
 have hDl:(limbs (b * 2 ^ s)).length=k+1:=by rw [hs]; exact zmH HK.out HBL.out hxl
 have hNl:(limbs (a * 2 ^ s)).length <= la+1:=by
  have h1:a * 2 ^ s < B64 ^ la * B64:=by
   have h1:=zaz a
   rw [HLA.out] at h1
   have h2:2 ^ s <= B64:=by rw [zbv]; exact Nat.pow_le_pow_right (by omega) (by omega)
   exact Nat.lt_of_lt_of_le (Nat.mul_lt_mul_of_pos_right h1 (Nat.two_pow_pos s)) (Nat.mul_le_mul_left _ h2)
  exact zaf (by rw [Nat.pow_succ]; exact h1)
 have HDL:=zc hDl
 clear hs hDl
 refine (zeU (.slice (some bd) (k+1) d) b s _ (H2.out.drewD HD.out) (by rw [HK.out]; have:=HA.out; omega) hs64).mono ?_
 rintro e w2 ⟨v9,rfl,hv9,hb2⟩
 obtain ⟨A9,c9,rfl,h91,h92,h93⟩:=hv9
 rw [HDL.out] at h91 ⊢
 have HB2:=zc hb2; have H93:=zc h93
 clear hb2 h93 hcx1
 unfold maxLen at h92
 go_wp2_with fail
 have hAb:NatIs (w2.alloc (za6 (la+1))) (.slice A la c) a:=((H1.out.drewD HD.out).below HB2.out).below ((Below.refl _ _).alloc (zv _) _)
 refine (zeU (.slice A la c) a s _ hAb (by rw [HLA.out]; exact HA.out) hs64).mono ?_
 rintro e w3 ⟨v5,rfl,hv5,hb3⟩
 clear hAb
 obtain ⟨A5,c5,rfl,h51,h52,h53⟩:=hv5
 have hr3:Buf w3 w2.heap.size (List.replicate (la+1) 0):=(zc6 w2 (la+1)).below hb3
 have h93':WordsAt w3 A9 (limbs (b * 2 ^ s)):=(H93.out.alloc (za6 (la+1))).below hb3
 have hbe3:Below w2.heap.size w2 w3:=((Below.refl _ _).alloc (zv _) (za6 (la+1))).trans (hb3.mono (by simp))
 have HR3:=zc hr3; have H93':=zc h93'; have HBE3:=zc hbe3; have H53:=zc h53
 clear hr3 h93' hbe3 hb3 h53
 have hNl2:=hNl
 go_wp2_with (with_reducible refine zbU rfl (.tmp 47) (.tmp 50) rfl w2.heap.size (la+1) (la+1) c5 A5 (limbs (a * 2 ^ s)) (List.replicate (la+1) 0) rfl rfl HR3.out H53.out hNl2 (by rw [List.length_replicate]; exact hNl2) ?_; intro w4 hb4 ho4)
 have hst:LongSt w (w4.alloc (za6 q)) w2.heap.size w4.heap.size A9 (limbs (b * 2 ^ s)) (a * 2 ^ s) la (k+1) q:=by
  have hlt2:w2.heap.size < w3.heap.size:=HR3.out.size
  have hs4:=ho4.size
  have hq:=HQ.out
  have hN:val (limbs (a * 2 ^ s) ++ (List.replicate (la+1) 0).drop (limbs (a * 2 ^ s)).length)=a * 2 ^ s:=by
   have hz:∀ n,val (List.replicate n 0)=0:=fun n=>by induction n with | zero=>rfl | succ n ih=>simp [List.replicate_succ,val,ih]
   rw [List.drop_replicate,val_append,hz,Nat.mul_zero,Nat.add_zero,zan]
  have hw2:w.heap.size <= w2.heap.size:=by have:=HD.out.size; have:=HB2.out.size; omega
  have hbel:Below w.heap.size w w2:=(HD.out.below _).trans (HB2.out.mono (by have:=HD.out.size; omega))
  refine ⟨⟨_,[],?_,?_,hb4.alloc _,by simpa using zc6 w4 q,?_,?_⟩,?_,?_,hw2,by omega,by omega,?_⟩
  ·rw [List.length_append, List.length_drop, List.length_replicate]
   omega
  ·simp; omega
  ·rw [hN]; simp [val]
  ·rw [hN, zan]
   have h1:=zaz a
   rw [HLA.out,hq,Nat.pow_add] at h1
   have h2:B64 ^ k <= b:=by
    rcases Nat.lt_or_ge b (B64 ^ k) with h | h
    ·have:=zaf h; rw [HK.out] at this; omega
    ·exact h
   have h3:a * 2 ^ s < B64 ^ q * B64 ^ k * 2 ^ s:=Nat.mul_lt_mul_of_pos_right h1 (Nat.two_pow_pos s)
   have h4:B64 ^ q * B64 ^ k * 2 ^ s <= b * 2 ^ s * B64 ^ q:=by
    rw [zw (b * 2 ^ s),<- Nat.mul_assoc]
    exact Nat.mul_le_mul_right _ (Nat.mul_le_mul_left _ h2)
   exact Nat.lt_of_lt_of_le h3 h4
  ·exact (ho4.words H93'.out (H93.out.ne_ (zv _))).alloc _
  ·exact (hbel.trans ((HBE3.out.mono hw2).trans (ho4.below hw2))).alloc (by omega) _
  ·intro ad h1 h2
   exact ⟨H93.out.ne_ (zv _) ad h1 h2,H93.out.ne_ (by omega) ad h1 h2⟩
 have hDp:0 < val (limbs (b * 2 ^ s)):=by rw [zan]; exact Nat.mul_pos (Nat.pos_of_ne_zero HB0.out) (Nat.two_pow_pos s)
 have hDlt:val (limbs (b * 2 ^ s)) < B64 ^ (k+1):=by
  have:=zcS _ (zcI (b * 2 ^ s))
  rwa [HDL.out] at this
 obtain ⟨dt,hdt,hdt0⟩:∃ dt,(limbs (b * 2 ^ s))[k]?=some dt/\0 < dt:=by
  have hne:b * 2 ^ s ≠ 0:=by rw [zan] at hDp; omega
  obtain ⟨k',x',e1,e2,e3,_⟩:=zjA hne
  have:k'=k:=by unfold wl at e1; rw [HDL.out] at e1; omega
  subst this
  exact ⟨x',e2,e3⟩
 generalize w2.heap.size=gr at *
 generalize w4.heap.size=gq at *
 have HDT:=zc hdt; have HDP:=zc hDp; have HDLT:=zc hDlt; have HST:=zc hst
 clear hdt hDp hDlt hst hb4 ho4 hNl hNl2
 go_loopw [12] (fun s12 wr=>∃ j:Nat,j <= q/\s12 = .int .i64 ((j:Int) - 1)/\LongSt w wr gr gq A9 (limbs (b * 2 ^ s)) (a * 2 ^ s) la (k+1) j) (fun s12 _=>(intOf s12+1).toNat)
 case atStart=>exact ⟨q,zv _,rfl,HST.out⟩
 case round=>
  obtain ⟨j',hj,rfl,hst⟩:=hrel
  by_cases h0:0 < j'
  ·obtain ⟨j, rfl⟩ : ∃ j, j' = j + 1 := ⟨j' - 1, by omega⟩
   rw [show ((j+1:Nat):Int) - 1=(j:Int) by omega]
   obtain ⟨P,S,zs,xx,t,hPl,hzl,hbf,hsg,hz1,hz2,hnext⟩:=hst.step (by omega) HDLT.out HDP.out
   have hne2:¬ la+1=j:=by have:=HQ.out; omega
   have hjl:j+(k+1) <= la:=by have:=HQ.out; omega
   go_wp2_with fail
   rw [show j+(k+1)+1 - j=k+1+1 by omega]
   refine (zeK gr j P S zs (limbs (b * 2 ^ s)) k (k+1) (la+1 - j) c9 t xx dt A9 _ hPl (by omega) rfl HDL.out hbf hst.words (fun ad h1 h2=>(hst.far ad h1 h2).1) HDT.out hdt0 (by omega) (by unfold maxLen; omega) hsg).mono ?_
   rintro e w5 ⟨f,rfl,hf,hfl,ys,hyl,hyb,hyo,hyv⟩
   obtain ⟨hz3,hz4,hfin⟩:=hnext w5 f ys hf hfl hyl hyb hyo hyv
   have HFIN:=zc (hfin _ rfl)
   clear hfin hyv hyb hyl hf hsg hbf hz1 hz2 hst hzl hPl hnext
   go_wp2_with fail
   go_roundw
   case rel=>exact ⟨j,by omega,rfl,HFIN.out⟩
   case measure=>simp [intOf]
  ·have hj0 : j' = 0 := by omega
   obtain ⟨⟨rs,qs,hrl,hql,hbr,hbq,hN,hlt⟩,hwd,hbe,hnr,hnq,hne,hfar⟩:=hst
   rw [hj0,Nat.pow_zero] at hN hlt
   rw [hj0,List.replicate_zero,List.nil_append] at hbq
   rw [Nat.one_mul,zan] at hN
   rw [Nat.mul_one,zan] at hlt
   have hps:=Nat.two_pow_pos s
   have hbp:0 < b:=Nat.pos_of_ne_zero HB0.out
   have eq1:val qs=a / b:=by
    have:a * 2 ^ s / (b * 2 ^ s)=val qs:=by rw [hN,Nat.add_mul_div_left _ _ (Nat.mul_pos hbp hps),Nat.div_eq_of_lt hlt,Nat.zero_add]
    rw [<- this,Nat.mul_div_mul_right _ _ hps]
   have eq2:val rs=a % b * 2 ^ s:=by
    have:a * 2 ^ s % (b * 2 ^ s)=val rs:=by rw [hN,Nat.add_mul_mod_self_left,Nat.mod_eq_of_lt hlt]
    rw [<- this,Nat.mul_mod_mul_right]
   have hqs:qs.length=q:=by have:=HQ.out; omega
   have hw3:=hbq.words 0 qs.length
   rw [List.drop_zero,List.take_length] at hw3
   have c3:=zaK (some ⟨gq,0,none⟩) q qs _ hw3 (by omega) (by unfold maxLen; omega) _ eq1
   have hw4:=hbr.words 0 rs.length
   rw [List.drop_zero,List.take_length] at hw4
   have c4:=zaK (some ⟨gr,0,none⟩) (la+1) rs _ hw4 (by omega) (by unfold maxLen; omega) _ eq2
   rw [hqs] at c3
   rw [hrl] at c4
   have HBE:=zc hbe
   have hwr:wl (a % b * 2 ^ s) <= MaxW:=by
    have h1:wl (a % b * 2 ^ s) <= k+1:=by
     rw [<- HDL.out,ze5]
     exact zar (Nat.mul_le_mul_right _ (Nat.le_of_lt (Nat.mod_lt _ hbp)))
    have:=HA.out
    omega
   have HWR:=zc hwr
   clear hN hlt eq1 eq2 hw3 hw4 hbr hbq hwd hfar hrl hql hqs hbe hps hbp hwr
   go_wp2_with fail
   refine c3.mono ?_
   rintro e w6 ⟨v,rfl,hv,rfl⟩
   go_wp2_with fail
   refine c4.mono ?_
   rintro e w7 ⟨v',rfl,hv',rfl⟩
   have HV:=zc hv
   clear hv c3 c4
   go_wp2_with fail
   refine (zhR v' (a % b * 2 ^ s) s _ hv' HWR.out (by unfold MaxW at hs64; omega)).mono ?_
   rintro e w8 ⟨v8,rfl,hv8,hb8⟩
   have hv9:NatIs w8 v8 (a % b):=by rw [Nat.mul_div_cancel _ (Nat.two_pow_pos s)] at hv8; exact hv8
   clear hv8
   go_wp2_with fail
   go_ret2
   exact ⟨v,v8,rfl,HV.out.below hb8,hv9,HBE.out.trans (hb8.mono HBE.out.size)⟩
theorem zlB (v1 v2:Value) (a b:Nat) (w:World) (h1:NatIs w v1 a) (h2:NatIs w v2 b) (ha:wl a <= MaxW) (hb:wl b <= MaxW) (hb0:b ≠ 0):
  Calls Tryz.prog 262 #[v1,v2] w fun e w'=>∃ v v',e = .returned (.tuple #[v,v'])/\NatIs w' v (a / b)/\NatIs w' v' (a % b)/\Below w.heap.size w w':=by
 rcases Nat.lt_or_ge a b with hlt | hle
 ·exact zma v1 v2 a b w h1 h2 ha hb hlt
 ·obtain ⟨k, x, hk, hx, hx0, hxl, hbl⟩ := zjA hb0
  rcases Nat.eq_zero_or_pos k with h0 | h0
  ·exact znv v1 v2 a b w h1 h2 ha (by omega) hle
  ·have hwm := zar hle
   have hc:=za7 v1 v2 a b w h1 h2 ha hb
   have hcc:∃ z:Int,cmpN a b=z/\0 <= z/\z <= 1:=by
    rcases Nat.lt_or_ge b a with h | h
    ·exact ⟨1,zbR h,by omega,by omega⟩
    ·obtain rfl : a = b := by omega
     exact ⟨0,zbS a,by omega,by omega⟩
   obtain ⟨z,hz,hz0,hz1⟩:=hcc
   have H1:=zc h1; have H2:=zc h2
   obtain ⟨A,c,rfl,h11,h12,h13⟩:=h1
   obtain ⟨B,d,rfl,h21,h22,h23⟩:=h2
   obtain ⟨bd,x',rfl,_,hcx,_,HX⟩:=h23.get (k:=k) (by rw [ze5]; omega)
   obtain rfl:x=x':=by have:=HX.out; rw [hx] at this; exact zl this
   rw [hz] at hc
   simp only [ze5,hk] at hc H1 H2 ⊢
   exact znx A bd a b c d (wl a) k (wl a - k) x z w H1 H2 rfl hk hb0 hbl hxl h0 (by omega) (by omega) ha hcx hz0 hz1 hc
theorem zeB (a b:Nat) (w:World) (ha:a < B64) (hb:b < B64):
  Calls Tryz.prog 264 #[.int .u64 (a:Int),.int .u64 (b:Int)] w fun e w'=>e = .returned (.int .u64 ((Nat.gcd a b:Nat):Int))/\Drew w w':=by
 go_enter Tryz.func264,Tryz.ntmps264
 go_wp2_with fail
 go_loopw [0,1] (fun s0 s1 wr=>∃ x y:Nat,s0 = .int .u64 (x:Int)/\s1 = .int .u64 (y:Int)/\Nat.gcd x y=Nat.gcd a b/\x < B64/\y < B64/\Drew w wr) (fun _ s1 _=>(intOf s1).toNat)
 case atStart=>exact ⟨a,b,rfl,rfl,rfl,ha,hb,Drew.refl _⟩
 case round=>
  obtain ⟨x,y,rfl,rfl,hg,hx,hy,hd⟩:=hrel
  have HG:=zc hg
  clear hg
  by_cases h0:y=0
  ·subst h0
   go_wp2_with fail
   go_ret
   exact ⟨by rw [<- HG.out,Nat.gcd_zero_right]; rfl,hd⟩
  ·have hne : ((y : Int) != 0) = true := by simp [h0]
   have hy0:0 < y:=Nat.pos_of_ne_zero h0
   have hlt:=Nat.mod_lt x hy0
   have he:(x:Int) % (y:Int)=((x % y:Nat):Int):=by rw [Int.natCast_emod]
   have HE:=zc he
   clear he h0
   go_wp2_with fail
   go_quiet (fail)
   go_wp2_with fail
   rw [HE.out]
   go_roundw
   case rel=>exact ⟨y,x % y,rfl,rfl,by rw [<- HG.out,Nat.gcd_comm x y,Nat.gcd_rec y x,Nat.gcd_comm],hy,by omega,hd.more _⟩
   case measure=>simp [intOf]; omega
theorem zcl {r:Nat} (h0:r ≠ 0) (hr:r < B64):limbs r=[r]:=by
 have:limbs (r+B64 * 0)=r :: limbs 0:=zcx hr (by omega)
 rw [Nat.mul_zero,Nat.add_zero,zao] at this
 exact this
theorem zfx {w:World} {r:Nat} (h0:r ≠ 0) (hr:r < B64):NatIs (w.alloc (.cells #[.int .u64 (r:Int)] 220)) (.slice (some ⟨w.heap.size,0,none⟩) 1 1) r:=
 ⟨_,1,by rw [zcl h0 hr]; rfl,by rw [zcl h0 hr]; simp,by unfold maxLen; omega,by rw [zcl h0 hr]; exact zjS hr⟩
def zb5 (a r:Nat):Prop:=r * r <= a/\a < (r+1) * (r+1)
theorem zly {a g q:Nat} (hg:0 < g) (hq:q=a / g):a < ((g+q) / 2+1) * ((g+q) / 2+1):=by
 have h1:a < (q+1) * g:=by
  have:=Nat.lt_mul_div_succ a hg
  rw [<- hq,zw] at this
  exact this
 have h2:g+q+1 <= 2 * ((g+q) / 2+1):=by omega
 have h3:(g+q+1) * (g+q+1) <= 2 * ((g+q) / 2+1) * (2 * ((g+q) / 2+1)):=Nat.mul_le_mul h2 h2
 have h4:4 * ((q+1) * g) <= (g+q+1) * (g+q+1):=by
  rcases Nat.le_total g (q+1) with h | h
  ·obtain ⟨d, hd⟩ := Nat.exists_eq_add_of_le h
   rw [show g+q+1=g+(q+1) by omega,hd]
   have:(g+(g+d)) * (g+(g+d))=4 * ((g+d) * g)+d * d:=by
    simp only [Nat.mul_add,Nat.add_mul,zw d g]; omega
   omega
  ·obtain ⟨d, hd⟩ := Nat.exists_eq_add_of_le h
   rw [show g+q+1=g+(q+1) by omega,hd]
   generalize q+1=p
   have:(p+d+p) * (p+d+p)=4 * (p * (p+d))+d * d:=by
    simp only [Nat.mul_add,Nat.add_mul,zw d p]; omega
   omega
 have h5:2 * ((g+q) / 2+1) * (2 * ((g+q) / 2+1))=4 * (((g+q) / 2+1) * ((g+q) / 2+1)):=by
  generalize (g+q) / 2+1=m
  rw [Nat.mul_mul_mul_comm]
 omega
theorem zkt {a g q:Nat} (hq:q=a / g) (h:g <= (g+q) / 2):g * g <= a:=by
 have h1:g <= q:=by omega
 have h2:=Nat.div_mul_le_self a g
 rw [<- hq] at h2
 exact zo (Nat.mul_le_mul_right g h1) h2
theorem ziI {a:Nat} (h0:a ≠ 0):wl (2 ^ ((bl a+1) / 2)) <= wl a+1:=by
 apply zaf
 obtain ⟨h1,h2,h3⟩:=zco h0
 have e:B64 ^ (wl a+1)=2 ^ (64 * (wl a+1)):=by rw [zbv,<- Nat.pow_mul]
 rw [e]
 apply Nat.pow_lt_pow_right (by omega)
 have hb:bl a <= 64 * wl a:=bl_le (by have:=zaz a; rwa [zbv,<- Nat.pow_mul] at this)
 omega
theorem NatIs.unique {w:World} {v:Value} {n m:Nat} (h1:NatIs w v n) (h2:NatIs w v m):n=m:=by
 obtain ⟨A,c,rfl,_,_,hw1⟩:=h1
 obtain ⟨B,d,e,_,_,hw2⟩:=h2
 injection e with e1 e2 e3
 subst e1
 have:limbs n=limbs m:=by
  apply List.ext_getElem e2
  intro i hi1 hi2
  obtain ⟨ad,x,he,_,hc1,_,hx1⟩:=hw1.get hi1
  obtain ⟨ad',y,he',_,hc2,_,hy1⟩:=hw2.get hi2
  rw [he] at he'
  cases he'
  rw [hc1] at hc2
  injection hc2 with hc2
  injection hc2 with _ hc2
  have hxy:x=y:=by omega
  have h1:=hx1.out
  have h2:=hy1.out
  rw [zg hi1] at h1
  rw [zg hi2] at h2
  injection h1 with h1
  injection h2 with h2
  rw [h1,h2,hxy]
 rw [<- zan n,this,zan]
open Classical in
noncomputable def zlD (w:World) (v:Value):Nat:=if h:∃ n,NatIs w v n then h.choose else 0
theorem zhT {w:World} {v:Value} {n:Nat} (h:NatIs w v n):zlD w v=n:=by
 have he:∃ n,NatIs w v n:=⟨n,h⟩
 rw [zlD,dif_pos he]
 exact he.choose_spec.unique h
theorem zm3 (v:Value) (a:Nat) (w:World) (h1:NatIs w v a) (ha:wl a <= 2 ^ 32):
  Calls Tryz.prog 231 #[v] w fun e w'=>∃ v' r,e = .returned v'/\NatIs w' v' r/\zb5 a r/\Below w.heap.size w w':=by
 have HN:=zc h1
 obtain ⟨A,c,rfl,h11,h12,h13⟩:=h1
 by_cases h0:a=0
 ·subst h0
  rw [zao,show ([]:List Nat).length=0 from rfl]
  clear HN h13 h11 h12 ha
  go_enter Tryz.func231,Tryz.ntmps231
  go_wp2_with fail
  go_ret
  exact ⟨_,0,rfl,NatIs.zero _,⟨by omega,by omega⟩,Below.refl _ _⟩
 ·have hla : 0 < (limbs a).length := ze4 h0
  have HLA:Hid (wl a <= 2 ^ 32):=ha
  have H0:=zc h0
  have hblb:bl a <= 64 * wl a:=bl_le (by have:=zaz a; rwa [zbv,<- Nat.pow_mul] at this)
  have hbl:bl a <= 2 ^ 50:=by omega
  generalize (limbs a).length=n at *
  have hne:((n:Int) == 0)=false:=by simp; omega
  clear h13 h11 h12 ha h0 hblb
  go_enter Tryz.func231,Tryz.ntmps231
  go_wp2_with fail
  refine (zel (.slice A n c) a _ (HN.out.below ((Below.refl _ _).alloc (zv _) _)) (by have:=HLA.out; unfold MaxW; omega)).mono ?_
  rintro e w1 ⟨rfl,rfl⟩
  go_wp2_with fail
  rw [show ((bl a:Int)+1) / 2=(((bl a+1) / 2:Nat):Int) by omega]
  refine (zeU _ 1 ((bl a+1) / 2) _ (zfx (r:=1) (by omega) (by unfold B64; omega)) (by rw [wl,zcl (by omega) (by unfold B64; omega)]; unfold MaxW; simp) (by have h:=HLA.out; unfold MaxW; have hb:bl a <= 64 * wl a:=bl_le (by have:=zaz a; rwa [zbv,<- Nat.pow_mul] at this); omega)).mono ?_
  rintro e w2 ⟨v3,rfl,hv3,hb2⟩
  rw [Nat.one_mul] at hv3
  have hbe:Below w.heap.size w w2:=((Below.refl _ _).alloc (zv _) _).trans (hb2.mono (by simp))
  have hg0:0 < 2 ^ ((bl a+1) / 2):=Nat.two_pow_pos _
  have hup:a < (2 ^ ((bl a+1) / 2)+1) * (2 ^ ((bl a+1) / 2)+1):=by
   have h1:=zfB a
   have h2:2 ^ bl a <= 2 ^ ((bl a+1) / 2) * 2 ^ ((bl a+1) / 2):=by rw [<- Nat.pow_add]; exact Nat.pow_le_pow_right (by omega) (by omega)
   have h3:2 ^ ((bl a+1) / 2) * 2 ^ ((bl a+1) / 2) <= (2 ^ ((bl a+1) / 2)+1) * (2 ^ ((bl a+1) / 2)+1):=Nat.mul_le_mul (by omega) (by omega)
   omega
  have hwl:=ziI H0.out
  generalize 2 ^ ((bl a+1) / 2)=g0 at *
  have HUP:=zc hup; have HV3:=zc hv3; have HBE:=zc hbe; have HWL:=zc hwl
  clear hup hv3 hbe hwl hb2
  go_wp2_with fail
  go_loopw [3] (fun s3 wr=>∃ g:Nat,NatIs wr s3 g/\0 < g/\a < (g+1) * (g+1)/\wl g <= wl a+1/\Below w.heap.size w wr) (fun s3 wr=>zlD wr s3)
  case atStart=>exact ⟨g0,HV3.out,hg0,HUP.out,HWL.out,HBE.out⟩
  case round=>
   obtain ⟨g,hv,hgp,hup,hwg,hbe⟩:=hrel
   have hup2:=zly hgp (rfl:a / g=a / g)
   have hqw:wl (a / g) <= wl a:=zar (Nat.div_le_self a g)
   have HV:=zc hv; have HUP2:=zc hup2; have HUP1:=zc hup; have HWG:=zc hwg; have HB:=zc hbe; have HQW:=zc hqw
   clear hv hup2 hup hwg hbe hqw
   go_wp2_with fail
   refine (zlB (.slice A n c) u3 a g _ (HN.out.below HB.out) HV.out (by have:=HLA.out; unfold MaxW; omega) (by have:=HLA.out; have:=HWG.out; unfold MaxW; omega) (Nat.pos_iff_ne_zero.1 hgp)).mono ?_
   rintro e w3 ⟨q,r,rfl,hq,_,hb3⟩
   have HQ:=zc hq; have HB3:=zc hb3
   clear hq hb3
   go_wp2_with fail
   refine (zi4 u3 q g (a / g) _ (HV.out.below HB3.out) HQ.out (by have:=HLA.out; have:=HWG.out; unfold MaxW; omega) (by have:=HLA.out; have:=HQW.out; unfold MaxW; omega)).mono ?_
   rintro e w4 ⟨s,rfl,hs,hb4⟩
   have HS:=zc hs; have HB4:=zc hb4
   clear hs hb4
   go_wp2_with fail
   have hsw:wl (g+a / g) <= wl a+2:=by have:=zhx g (a / g); have:=HWG.out; have:=HQW.out; omega
   have hright:=zhR s (g+a / g) 1 w4 HS.out (by have:=HLA.out; unfold MaxW; omega) (by omega)
   refine hright.mono ?_
   rintro e w5 ⟨nx,rfl,hnx,hb5⟩
   rw [Nat.pow_one] at hnx
   have hnw:wl ((g+a / g) / 2) <= wl a+2:=zo (zar (Nat.div_le_self _ _)) hsw
   have HNX:=zc hnx; have HB5:=zc hb5; have HNW:=zc hnw
   have hg5:NatIs w5 u3 g:=((HV.out.below HB3.out).below HB4.out).below hb5
   have HG5:=zc hg5
   clear hnx hb5 hnw hsw hright hg5
   go_wp2_with fail
   refine (za7 nx u3 ((g+a / g) / 2) g _ HNX.out HG5.out (by have:=HLA.out; have:=HNW.out; unfold MaxW; omega) (by have:=HLA.out; have:=HWG.out; unfold MaxW; omega)).mono ?_
   rintro e w6 ⟨rfl,hd6⟩
   have hbe6:Below w.heap.size w w6:=by
    have s1:=HB.out.size
    have s2:=HB3.out.size
    have s3:=HB4.out.size
    exact (((HB.out.trans (HB3.out.mono s1)).trans (HB4.out.mono (by omega))).trans (HB5.out.mono (by omega))).trans (hd6.below _)
   have HB6:=zc hbe6; have HD6:=zc hd6
   clear hbe6 hd6
   by_cases hcmp:(g+a / g) / 2 < g
   ·rw [zb7 hcmp]
    have HC:=zc hcmp
    clear hcmp
    go_wp2_with fail
    go_roundw
    case rel=>
     have h0:0 < (g+a / g) / 2:=by
      rcases Nat.eq_zero_or_pos ((g+a / g) / 2) with h | h
      ·exfalso
       have hu:=HUP2.out
       rw [h] at hu
       have:=H0.out
       omega
      ·exact h
     exact ⟨(g+a / g) / 2,HNX.out.drewD HD6.out,h0,HUP2.out,zo (zar (Nat.le_of_lt HC.out)) HWG.out,HB6.out⟩
    case measure=>
     rw [zhT HV.out]
     exact (zhT (HNX.out.drewD HD6.out)).symm ▸ HC.out
   ·have hcc:∃ z:Int,cmpN ((g+a / g) / 2) g=z/\0 <= z:=by
     rcases Nat.lt_or_ge g ((g+a / g) / 2) with h | h
     ·exact ⟨1,zbR h,by omega⟩
     ·exact ⟨0,by rw [show (g+a / g) / 2=g by omega,zbS],by omega⟩
    obtain ⟨z,hz,hz0⟩:=hcc
    rw [hz]
    have HC:=zc hcmp
    clear hcmp hz
    go_wp2_with fail
    go_ret
    exact ⟨u3,g,rfl,HG5.out.drewD HD6.out,⟨zkt rfl (by have:=HC.out; omega),HUP1.out⟩,HB6.out⟩
class IntIs (w:World) (v:Value) (z:outParam Int):Prop where
 ex:∃ m,v = .agg #[.bool (decide (z < 0)),m]/\NatIs w m z.natAbs
theorem IntIs.below {w w':World} {v:Value} {z:Int} (h:IntIs w v z) (hb:Below w.heap.size w w'):IntIs w' v z:=by
 obtain ⟨m,e,h⟩:=h
 exact ⟨m,e,h.below hb⟩
theorem IntIs.drewD {w w':World} {v:Value} {z:Int} (h:IntIs w v z) (hd:Drew w w'):IntIs w' v z:=h.below (hd.below _)
def sgn (neg:Bool) (n:Nat):Int:=if neg then -(n:Int) else n
theorem zfJ {w:World} {m:Value} {neg:Bool} {n:Nat} (h:NatIs w m n):IntIs w (.agg #[.bool (neg && decide (0 < n)),m]) (sgn neg n):=by
 refine ⟨m,?_,?_⟩
 ·cases neg <;> simp [sgn]
 ·cases neg <;> simpa [sgn] using h
theorem zeb (neg:Bool) (m:Value) (n:Nat) (w:World) (h:NatIs w m n):
  Calls Tryz.prog 160 #[.bool neg,m] w fun e w'=>e = .returned (.agg #[.bool (neg && decide (0 < n)),m])/\Below w.heap.size w w':=by
 obtain ⟨A,c,rfl,h1,h2,h3⟩:=h
 have hl:decide (0 < n)=decide (0 < (limbs n).length):=by
  rcases Nat.eq_zero_or_pos n with h0 | h0
  ·subst h0; simp [zao]
  ·have:=ze4 (Nat.pos_iff_ne_zero.1 h0); unfold wl at this; simp [h0,this]
 rw [hl]
 generalize (limbs n).length=k at *
 clear h1 h3 hl
 cases neg
 ·go_enter Tryz.func160, Tryz.ntmps160
  go_wp2_with fail
  simp [bodyPost,results,Tryz.results160,go_sem]
  exact (Below.refl _ _).alloc (zv _) _
 ·go_enter Tryz.func160, Tryz.ntmps160
  go_wp2_with fail
  simp [bodyPost,results,Tryz.results160,go_sem]
  exact (Below.refl _ _).alloc (zv _) _
theorem NatIs.slice {w:World} {v:Value} {n:Nat} (h:NatIs w v n):∃ A k c,v = .slice A k c/\Hid (NatIs w (.slice A k c) n):=by
 obtain ⟨A,c,rfl,h1⟩:=h
 exact ⟨A,_,c,rfl,⟨A,c,rfl,h1⟩⟩
def Two (w:World) (g:Nat) (a b:Value):Prop:=w.heap[g]?=some (.cells #[a,b] 98 (0,0))
section
variable {w w':World} {g:Nat} {a b:Value}
theorem Two.new (w:World) (a b:Value):Two (w.alloc (.cells #[a,b] 98)) w.heap.size a b:=heap_alloc_new w _
theorem Two.lt (h:Two w g a b):g < w.heap.size:=by
 rcases Nat.lt_or_ge g w.heap.size with hlt | hge
 ·exact hlt
 ·unfold Two at h; rw [Array.getElem?_eq_none hge] at h; cases h
theorem Two.below (h:Two w g a b) (hb:Below w.heap.size w w'):Two w' g a b:=(hb.block g h.lt).trans h
theorem Two.alloc (h:Two w g a b) (o:Obj):Two (w.alloc o) g a b:=h.below ((Below.refl _ _).alloc (zv _) o)
theorem Two.drew (h:Two w g a b):Two w.drew g a b:=h
theorem Two.cell0 (h:Two w g a b):w.cell? ⟨g,0,none⟩=some a:=cell_of_row w g 0 _ _ _ h
theorem Two.cell1 (h:Two w g a b):w.cell? ⟨g,1,none⟩=some b:=cell_of_row w g 1 _ _ _ h
theorem Two.frozen (h:Two w g a b) (i:Nat):w.frozen? ⟨g,i,none⟩=false:=by
 unfold Two at h
 simp [World.frozen?,h]
theorem Two.set_ (h:Two w g a b) (c d:Value):Two ((w.setCell ⟨g,0,none⟩ c).setCell ⟨g,1,none⟩ d) g c d:=by
 unfold Two at h ⊢
 simp [World.setCell,Array.getElem?_modify,h]
end
theorem NatIs.setTwo {w:World} {v:Value} {n g:Nat} {b:Bool} {A:Option Addr} {k c:Nat} (h:NatIs w v n) (ht:Two w g (.bool b) (.slice A k c)) (x y:Value):
  NatIs ((w.setCell ⟨g,0,none⟩ x).setCell ⟨g,1,none⟩ y) v n:=by
 obtain ⟨B,d,rfl,h1,h2,h3⟩:=h
 refine ⟨B,d,rfl,h1,h2,h3.lt,fun j u hu=>?_⟩
 obtain ⟨ad,e,hl,hc⟩:=h3.at_ j u hu
 refine ⟨ad,e,by simpa [World.setCell] using hl,?_⟩
 have hne:g ≠ (ad.add j).block:=by
  intro hg
  unfold Two at ht
  rw [hg] at ht
  simp only [World.cell?,ht] at hc
  by_cases hsp:(ad.add j).spot.isSome=true
  ·rw [if_pos hsp] at hc; cases hc
  ·rw [if_neg hsp] at hc
   rcases h:(ad.add j).off with _ | _ | m
   ·rw [h] at hc; simp at hc
   ·rw [h] at hc; simp at hc
   ·rw [h] at hc; simp at hc
 have h5:((w.setCell ⟨g,0,none⟩ x).setCell ⟨g,1,none⟩ y).heap[(ad.add j).block]?=w.heap[(ad.add j).block]?:=by
  rw [Below.heap_setCell _ _ _ _ (Ne.symm hne),Below.heap_setCell _ _ _ _ (Ne.symm hne)]
 rw [World.cell?_of_block h5]
 exact hc
structure Boxed (w W:World) (g:Nat) (b1 b2:Bool) (m1 m2:Value):Prop where
 one:Two W g (.bool b1) m1
 two:Two W (g+1) (.bool b2) m2
 res:Two W (g+1+1) (.bool false) (.slice none 0 0)
 below:Below w.heap.size w W
 new:g=w.heap.size
theorem boxed (w:World) (b1 b2:Bool) (m1 m2:Value):
  Boxed w (((w.alloc (Obj.cells #[Value.bool b1,m1] 98)).alloc (Obj.cells #[Value.bool b2,m2] 98)).alloc (Obj.cells #[Value.bool false,Value.slice none 0 0] 98)) w.heap.size b1 b2 m1 m2:=by
 refine ⟨((Two.new w _ _).alloc _).alloc _,?_,?_,(((Below.refl _ _).alloc (zv _) _).alloc (by simp) _).alloc (by simp; omega) _,rfl⟩
 ·have := (Two.new (w.alloc (Obj.cells #[Value.bool b1, m1] 98)) (.bool b2) m2).alloc (Obj.cells #[Value.bool false, Value.slice none 0 0] 98)
  rwa [show (w.alloc (Obj.cells #[Value.bool b1,m1] 98)).heap.size=w.heap.size+1 by simp] at this
 ·have := Two.new ((w.alloc (Obj.cells #[Value.bool b1, m1] 98)).alloc (Obj.cells #[Value.bool b2, m2] 98)) (.bool false) (.slice none 0 0)
  rwa [show ((w.alloc (Obj.cells #[Value.bool b1,m1] 98)).alloc (Obj.cells #[Value.bool b2,m2] 98)).heap.size=w.heap.size+1+1 by simp] at this
def Heldx (W:World) (g:Nat) (b1 b2:Bool) (m1 m2:Value) (w':World):Prop:=
 w'.cell? ⟨g,0,none⟩=some (.bool b1)/\w'.cell? ⟨g,1,none⟩=some m1/\w'.cell? ⟨g+1,0,none⟩=some (.bool b2)/\w'.cell? ⟨g+1,1,none⟩=some m2/\Below (g+1+1) W w'
theorem Two.belowG {w w':World} {g G:Nat} {a b:Value} (h:Two w g a b) (hb:Below G w w') (hg:g < G):Two w' g a b:=(hb.block g hg).trans h
theorem Boxed.held {w W w':World} {g:Nat} {b1 b2:Bool} {m1 m2:Value} (h:Boxed w W g b1 b2 m1 m2) (hb:Below (g+1+1) W w'):Heldx W g b1 b2 m1 m2 w':=
 ⟨(h.one.belowG hb (by omega)).cell0,(h.one.belowG hb (by omega)).cell1,(h.two.belowG hb (by omega)).cell0,(h.two.belowG hb (by omega)).cell1,hb⟩
theorem Boxed.big {w W:World} {g:Nat} {b1 b2:Bool} {m1 m2:Value} (h:Boxed w W g b1 b2 m1 m2):g+1+1 <= W.heap.size:=Nat.le_of_lt h.res.lt
theorem int_mul (b1 b2:Bool) (m1 m2:Value) (n1 n2:Nat) (w:World) (h1:NatIs w m1 n1) (h2:NatIs w m2 n2) (hl1:wl n1 <= MaxW) (hl2:wl n2 <= MaxW):
  Calls Tryz.prog 168 #[.agg #[.bool b1,m1],.agg #[.bool b2,m2]] w fun e w'=>∃ v,e = .returned v/\IntIs w' v (sgn (b1 != b2) (n1 * n2))/\Below w.heap.size w w':=by
 have H1:=zc h1; have H2:=zc h2
 clear h1 h2
 go_enter Tryz.func168,Tryz.ntmps168
 go_wp2_with fail
 have hB:=boxed w b1 b2 m1 m2
 generalize (((w.alloc (Obj.cells #[Value.bool b1,m1] 98)).alloc (Obj.cells #[Value.bool b2,m2] 98)).alloc (Obj.cells #[Value.bool false,Value.slice none 0 0] 98))=W at *
 have HN1:Hid (NatIs W.drew m1 n1):=(H1.out.below hB.below).below (Below.refl _ _).drew
 have HN2:Hid (NatIs W.drew m2 n2):=(H2.out.below hB.below).below (Below.refl _ _).drew
 have HD:Hid (Below W.heap.size W W.drew):=(Below.refl _ _).drew
 have HG:=zc hB.big
 have HB:=zc hB
 clear hB
 go_region_held3 (fun w'=>w'.cell? ⟨w.heap.size,0,none⟩=some (.bool b1)/\w'.cell? ⟨w.heap.size,1,none⟩=some m1/\w'.cell? ⟨w.heap.size+1,0,none⟩=some (.bool b2)/\w'.cell? ⟨w.heap.size+1,1,none⟩=some m2/\Below (w.heap.size+1+1) W w')
  ((first | exact HB.out.held (HD.out.mono HG.out) | exact HB.out.held HW1.out | exact HB.out.held HW2.out | exact HB.out.held ((HW2.out.setCell (zv _) _).setCell (zv _) _)))
  ((first
    | (go_at_call 227; refine (zq1 m1 m2 n1 n2 _ HN1.out HN2.out hl1 hl2).mono ?_; rintro e w1 ⟨v1, rfl, hv1, hb1⟩; obtain ⟨A1, k1, c1, rfl, HV1⟩ := hv1.slice;
       have HB1:Hid (Below W.heap.size W w1):=HD.out.trans hb1; have HW1:Hid (Below (w.heap.size+1+1) W w1):=HB1.out.mono HG.out; clear hb1 hv1)
    | (go_at_call 160; refine (zeb (b1 != b2) _ (n1 * n2) _ HV1.out).mono ?_; rintro e w2 ⟨rfl, hb2⟩;
       have HB2:Hid (Below W.heap.size W w2):=HB1.out.trans (hb2.mono HB1.out.size); have HW2:Hid (Below (w.heap.size+1+1) W w2):=HB2.out.mono HG.out; have HV2:=zc (HV1.out.below hb2);
       have HR:=zc (HB.out.res.below HB2.out); have hr0:=HR.out.cell0; have hr1:=HR.out.cell1; have hr2:=HR.out.frozen 0; have hr3:=HR.out.frozen 1; clear hb2)))
 have ht:=HR.out.set_ (.bool (b1 != b2 && decide (0 < n1 * n2))) (.slice A1 k1 c1)
 have h0:=ht.cell0
 have h1:=ht.cell1
 have hfin:Below w.heap.size w ((w2.setCell ⟨w.heap.size+1+1,0,none⟩ (.bool (b1 != b2 && decide (0 < n1 * n2)))).setCell ⟨w.heap.size+1+1,1,none⟩ (.slice A1 k1 c1)):=
  ((HB.out.below.trans (HB2.out.mono (by have:=HG.out; omega))).setCell (p:=⟨w.heap.size+1+1,0,none⟩) (by show _ <= w.heap.size+1+1; omega) _).setCell (p:=⟨w.heap.size+1+1,1,none⟩) (by show _ <= w.heap.size+1+1; omega) _
 have hv:=HV2.out.setTwo HR.out (.bool (b1 != b2 && decide (0 < n1 * n2))) (.slice A1 k1 c1)
 generalize (w2.setCell ⟨w.heap.size+1+1,0,none⟩ (.bool (b1 != b2 && decide (0 < n1 * n2)))).setCell ⟨w.heap.size+1+1,1,none⟩ (.slice A1 k1 c1)=wf at *
 have HF:=zc hfin; have HV:=zc hv
 clear hfin hv ht hr0 hr1 hr2 hr3
 go_wp2_with fail
 simp [bodyPost,results,Tryz.results168,go_sem,h0,h1]
 exact ⟨zfJ HV.out,HF.out⟩
theorem IntIs.agg {w:World} {v:Value} {z:Int} (h:IntIs w v z):∃ b A k c,v = .agg #[.bool b,.slice A k c]/\Hid (b=decide (z < 0))/\Hid (NatIs w (.slice A k c) z.natAbs):=by
 obtain ⟨m,rfl,hm⟩:=h
 obtain ⟨A,k,c,rfl,H⟩:=hm.slice
 exact ⟨_,A,k,c,rfl,rfl,H⟩
theorem zcj (z:Int):sgn (decide (z < 0)) z.natAbs=z:=by
 unfold sgn
 by_cases h:z < 0
 ·simp [h]; omega
 ·simp [h]; omega
theorem zld (x y:Int):sgn (decide (x < 0) != decide (y < 0)) (x.natAbs * y.natAbs)=x * y:=by
 have hx:=zcj x
 have hy:=zcj y
 generalize decide (x < 0)=b1 at *
 generalize decide (y < 0)=b2 at *
 rw [<- hx,<- hy]
 cases b1 <;> cases b2 <;> simp [sgn,Int.neg_mul,Int.mul_neg]
theorem zfR {w w2:World} {r:Nat} {A:Option Addr} {k c n:Nat} (b:Bool) (hb:Below w.heap.size w w2) (hr:Two w2 r (.bool false) (.slice none 0 0)) (hg:w.heap.size <= r) (hv:NatIs w2 (.slice A k c) n):
  Two ((w2.setCell ⟨r,0,none⟩ (.bool b)).setCell ⟨r,1,none⟩ (.slice A k c)) r (.bool b) (.slice A k c) /\
  NatIs ((w2.setCell ⟨r,0,none⟩ (.bool b)).setCell ⟨r,1,none⟩ (.slice A k c)) (.slice A k c) n /\
  Below w.heap.size w ((w2.setCell ⟨r,0,none⟩ (.bool b)).setCell ⟨r,1,none⟩ (.slice A k c)):=
 ⟨hr.set_ _ _,hv.setTwo hr _ _,(hb.setCell (p:=⟨r,0,none⟩) hg _).setCell (p:=⟨r,1,none⟩) hg _⟩
theorem zi3 (v1 v2:Value) (x y:Int) (w:World) (h1:IntIs w v1 x) (h2:IntIs w v2 y) (hl1:wl x.natAbs <= MaxW) (hl2:wl y.natAbs <= MaxW):
  Calls Tryz.prog 168 #[v1,v2] w fun e w'=>∃ v,e = .returned v/\IntIs w' v (x * y)/\Below w.heap.size w w':=by
 obtain ⟨m1,rfl,hm1⟩:=h1
 obtain ⟨m2,rfl,hm2⟩:=h2
 have:=int_mul (decide (x < 0)) (decide (y < 0)) m1 m2 _ _ w hm1 hm2 hl1 hl2
 rwa [zld] at this
theorem zdE (neg:Bool) (m:Value) (n:Nat) (w:World) (h:NatIs w m n):
  Calls Tryz.prog 160 #[.bool neg,m] w fun e w'=>∃ b',e = .returned (.agg #[.bool b',m])/\Hid (∀ w',NatIs w' m n -> IntIs w' (.agg #[.bool b',m]) (sgn neg n))/\Below w.heap.size w w':=by
 refine (zeb neg m n w h).mono ?_
 rintro e w' ⟨rfl,hb⟩
 exact ⟨_,rfl,fun _ h=>zfJ h,hb⟩
theorem zlc (x:Int):sgn (!decide (x < 0)) x.natAbs = -x:=by
 unfold sgn
 by_cases h:x < 0
 ·simp [h]; omega
 ·simp [h]; omega
structure Boxed1 (w W:World) (g:Nat) (b1:Bool) (m1:Value):Prop where
 one:Two W g (.bool b1) m1
 res:Two W (g+1) (.bool false) (.slice none 0 0)
 below:Below w.heap.size w W
 new:g=w.heap.size
theorem zn7 (w:World) (b1:Bool) (m1:Value):
  Boxed1 w ((w.alloc (Obj.cells #[Value.bool b1,m1] 98)).alloc (Obj.cells #[Value.bool false,Value.slice none 0 0] 98)) w.heap.size b1 m1:=by
 refine ⟨(Two.new w _ _).alloc _,?_,((Below.refl _ _).alloc (zv _) _).alloc (by simp) _,rfl⟩
 have:=Two.new (w.alloc (Obj.cells #[Value.bool b1,m1] 98)) (.bool false) (.slice none 0 0)
 rwa [show (w.alloc (Obj.cells #[Value.bool b1,m1] 98)).heap.size=w.heap.size+1 by simp] at this
theorem zlR (v:Value) (x:Int) (w:World) (h:IntIs w v x):
  Calls Tryz.prog 197 #[v] w fun e w'=>∃ v,e = .returned v/\IntIs w' v (-x)/\Below w.heap.size w w':=by
 obtain ⟨b,A,k,c,rfl,HB,HN⟩:=h.agg
 have HX:=zc h
 clear h
 go_enter Tryz.func197,Tryz.ntmps197
 go_wp2_with fail
 have hB:=zn7 w b (.slice A k c)
 generalize ((w.alloc (Obj.cells #[Value.bool b,.slice A k c] 98)).alloc (Obj.cells #[Value.bool false,Value.slice none 0 0] 98))=W at *
 refine (zdE (!b) (.slice A k c) x.natAbs _ (HN.out.below hB.below)).mono ?_
 rintro e w2 ⟨b',rfl,HS,hb2⟩
 have hR:=hB.res.below hb2
 have hr0:=hR.cell0; have hr1:=hR.cell1; have hr2:=hR.frozen 0; have hr3:=hR.frozen 1
 have hbe:Below w.heap.size w w2:=hB.below.trans (hb2.mono hB.below.size)
 obtain ⟨ht,hv,hf⟩:=zfR b' hbe hR (Nat.le_succ _) (HN.out.below hbe)
 have h0:=ht.cell0
 have h1:=ht.cell1
 have HV:=zc hv; have HF:=zc hf
 clear hb2 hbe hv hf ht hR hB
 go_wp2_with fail
 simp [bodyPost,results,Tryz.results197,go_sem,h0,h1]
 exact ⟨by have:=HS.out _ HV.out; rwa [HB.out,zlc] at this,HF.out⟩
end Go.Proofs.YtombhkpniddceaaGreatDoor
