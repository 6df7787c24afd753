import Derived.Test.YtombhkpniddceaaGreatDoorM03
set_option maxHeartbeats 1600000
set_option linter.all false
namespace Go.Proofs.YtombhkpniddceaaGreatDoor
open Go.RowKit
theorem int_Abs (v:Value) (x:Int) (w:World) (h:IntIs w v x):
  Calls Tryz.prog 213 #[v] w fun e w'=>∃ v,e = .returned v/\IntIs w' v (x.natAbs:Int)/\Below w.heap.size w w':=by
 obtain ⟨b,A,k,c,rfl,HB,HN⟩:=h.agg
 clear h
 go_enter Tryz.func213,Tryz.ntmps213
 go_wp2_with fail
 have hB:=zn7 w b (.slice A k c)
 generalize ((w.alloc (Obj.cells #[Value.bool b,.slice A k c] 98)).alloc (Obj.cells #[Value.bool false,Value.slice none 0 0] 98))=W at *
 refine (zdE false (.slice A k c) x.natAbs _ (HN.out.below hB.below)).mono ?_
 rintro e w2 ⟨b',rfl,HS,hb2⟩
 have hR:=hB.res.below hb2
 have hr0:=hR.cell0; have hr1:=hR.cell1; have hr2:=hR.frozen 0; have hr3:=hR.frozen 1
 have hbe:Below w.heap.size w w2:=hB.below.trans (hb2.mono hB.below.size)
 obtain ⟨ht,hv,hf⟩:=zfR b' hbe hR (Nat.le_succ _) (HN.out.below hbe)
 have h0:=ht.cell0
 have h1:=ht.cell1
 have HV:=zc hv; have HF:=zc hf
 clear hb2 hbe hv hf ht hR hB
 go_wp2_with fail
 simp [bodyPost,results,Tryz.results213,go_sem,h0,h1]
 exact ⟨by have:=HS.out _ HV.out; rwa [show sgn false x.natAbs=(x.natAbs:Int) from rfl] at this,HF.out⟩
theorem zkC (v:Value) (x:Int) (w:World) (h:IntIs w v x) (hl:wl x.natAbs <= MaxW):
  Calls Tryz.prog 163 #[v] w fun e w'=>e = .returned (.int .i64 (bl x.natAbs:Int))/\Below w.heap.size w w':=by
 obtain ⟨b,A,k,c,rfl,HB,HN⟩:=h.agg
 clear h
 go_enter Tryz.func163,Tryz.ntmps163
 go_wp2_with fail
 have hbe:Below w.heap.size w (w.alloc (Obj.cells #[Value.bool b,.slice A k c] 98)):=(Below.refl _ _).alloc (zv _) _
 refine (zel _ _ _ (HN.out.below hbe) hl).mono ?_
 rintro e w2 ⟨rfl,rfl⟩
 go_wp2_with fail
 go_ret
 exact ⟨rfl,hbe⟩
def sgnI (x:Int):Int:=if x < 0 then -1 else if x=0 then 0 else 1
theorem NatIs.len {w:World} {A:Option Addr} {k c n:Nat} (h:NatIs w (.slice A k c) n):k=(limbs n).length/\k <= c/\c <= maxLen:=by
 obtain ⟨B,d,e,h1,h2,_⟩:=h
 injection e with e1 e2 e3
 subst e2 e3
 exact ⟨rfl,h1,h2⟩
theorem NatIs.len_zero {w:World} {A:Option Addr} {k c n:Nat} (h:NatIs w (.slice A k c) n):k=0 ↔ n=0:=by
 have:=h.len.1
 rw [this]
 exact ⟨fun e=>zfC.1 (List.eq_nil_of_length_eq_zero e),fun e=>by rw [e,zao]; rfl⟩
theorem zna (v:Value) (x:Int) (w:World) (h:IntIs w v x):
  Calls Tryz.prog 164 #[v] w fun e w'=>e = .returned (.int .i64 (sgnI x))/\Below w.heap.size w w':=by
 obtain ⟨b,A,k,c,rfl,HB,HN⟩:=h.agg
 clear h
 have hlz:=HN.out.len_zero
 have hbe:Below w.heap.size w (w.alloc (Obj.cells #[Value.bool b,.slice A k c] 98)):=(Below.refl _ _).alloc (zv _) _
 have HBE:=zc hbe
 clear hbe
 rcases Int.lt_trichotomy x 0 with hx | hx | hx
 ·have hb : b = true := by rw [HB.out]; simp [hx]
  have hk:((k:Int) == 0)=false:=by simp; omega
  have hs:sgnI x = -1:=by unfold sgnI; rw [if_pos hx]
  subst hb
  have HSS:=zc hs
  clear hlz hs HB hx
  go_enter Tryz.func164,Tryz.ntmps164
  go_wp2_with fail
  go_ret
  exact ⟨zbF HSS.out.symm,HBE.out⟩
 ·have hk : k = 0 := hlz.2 (by simp [hx])
  have hs:sgnI x=0:=by unfold sgnI; rw [if_neg (by omega),if_pos hx]
  subst hk
  have HSS:=zc hs
  clear hlz hs HB hx
  go_enter Tryz.func164,Tryz.ntmps164
  go_wp2_with fail
  go_ret
  exact ⟨zbF HSS.out.symm,HBE.out⟩
 ·have hb : b = false := by rw [HB.out]; simp; omega
  have hk:((k:Int) == 0)=false:=by simp; omega
  have hs:sgnI x=1:=by unfold sgnI; rw [if_neg (by omega),if_neg (by omega)]
  subst hb
  have HSS:=zc hs
  clear hlz hs HB hx
  go_enter Tryz.func164,Tryz.ntmps164
  go_wp2_with fail
  go_ret
  exact ⟨zbF HSS.out.symm,HBE.out⟩
def cmpI (x y:Int):Int:=if x < y then -1 else if x=y then 0 else 1
theorem cmpI_pp {x y:Int} (hx:0 <= x) (hy:0 <= y):cmpN x.natAbs y.natAbs=cmpI x y:=by
 unfold cmpN cmpI
 split <;> split <;> (try split) <;> (try split) <;> omega
theorem cmpI_nn {x y:Int} (hx:x < 0) (hy:y < 0):cmpN y.natAbs x.natAbs=cmpI x y:=by
 unfold cmpN cmpI
 split <;> split <;> (try split) <;> (try split) <;> omega
theorem int_Cmp (v1 v2:Value) (x y:Int) (w:World) (h1:IntIs w v1 x) (h2:IntIs w v2 y) (hl1:wl x.natAbs <= MaxW) (hl2:wl y.natAbs <= MaxW):
  Calls Tryz.prog 169 #[v1,v2] w fun e w'=>e = .returned (.int .i64 (cmpI x y))/\Below w.heap.size w w':=by
 obtain ⟨b1,A1,k1,c1,rfl,HB1,HN1⟩:=h1.agg
 obtain ⟨b2,A2,k2,c2,rfl,HB2,HN2⟩:=h2.agg
 clear h1 h2
 have hbe:Below w.heap.size w ((w.alloc (Obj.cells #[Value.bool b1,.slice A1 k1 c1] 98)).alloc (Obj.cells #[Value.bool b2,.slice A2 k2 c2] 98)):=((Below.refl _ _).alloc (zv _) _).alloc (by simp) _
 have HBE:=zc hbe
 clear hbe
 by_cases hx:x < 0
 ·obtain rfl : b1 = true := by rw [HB1.out]; simp [hx]
  by_cases hy:y < 0
  ·obtain rfl : b2 = true := by rw [HB2.out]; simp [hy]
   have HC:=zc (cmpI_nn hx hy)
   clear hx hy HB1 HB2
   go_enter Tryz.func169,Tryz.ntmps169
   go_wp2_with fail
   refine (za7 _ _ _ _ _ (HN2.out.below HBE.out) (HN1.out.below HBE.out) hl2 hl1).mono ?_
   rintro e w2 ⟨rfl,hd⟩
   rw [HC.out]
   go_wp2_with fail
   go_ret
   exact ⟨rfl,HBE.out.trans (hd.below _)⟩
  ·obtain rfl : b2 = false := by rw [HB2.out]; simp; omega
   have HC:Hid (cmpI x y = -1):=by unfold cmpI; exact if_pos (by omega)
   clear hx hy HB1 HB2
   go_enter Tryz.func169,Tryz.ntmps169
   go_wp2_with fail
   go_ret
   exact ⟨zbF HC.out.symm,HBE.out⟩
 ·obtain rfl : b1 = false := by rw [HB1.out]; simp; omega
  by_cases hy:y < 0
  ·obtain rfl : b2 = true := by rw [HB2.out]; simp [hy]
   have HC:Hid (cmpI x y=1):=by unfold cmpI; rw [if_neg (by omega),if_neg (by omega)]; rfl
   clear hx hy HB1 HB2
   go_enter Tryz.func169,Tryz.ntmps169
   go_wp2_with fail
   go_ret
   exact ⟨zbF HC.out.symm,HBE.out⟩
  ·obtain rfl : b2 = false := by rw [HB2.out]; simp; omega
   have HC:=zc (cmpI_pp (x:=x) (y:=y) (by omega) (by omega))
   clear hx hy HB1 HB2
   go_enter Tryz.func169,Tryz.ntmps169
   go_wp2_with fail
   refine (za7 _ _ _ _ _ (HN1.out.below HBE.out) (HN2.out.below HBE.out) hl1 hl2).mono ?_
   rintro e w2 ⟨rfl,hd⟩
   rw [HC.out]
   go_wp2_with fail
   go_ret
   exact ⟨rfl,HBE.out.trans (hd.below _)⟩
theorem zh8 (b1 b2:Bool) (A1 A2:Option Addr) (k1 k2 c1 c2 n1 n2:Nat) (z:Int) (w:World) (HN1:Hid (NatIs w (.slice A1 k1 c1) n1)) (HN2:Hid (NatIs w (.slice A2 k2 c2) n2)) (hl1:wl n1 <= MaxW) (hl2:wl n2 <= MaxW) (hb:b1=b2) (HX:Hid (sgn b1 (n1+n2)=z)):
  Calls Tryz.prog 199 #[.agg #[.bool b1,.slice A1 k1 c1],.agg #[.bool b2,.slice A2 k2 c2]] w fun e w'=>∃ v,e = .returned v/\IntIs w' v z/\Below w.heap.size w w':=by
 subst hb
 go_enter Tryz.func199,Tryz.ntmps199
 go_wp2_with fail
 have hB:=boxed w b1 b1 (.slice A1 k1 c1) (.slice A2 k2 c2)
 generalize (((w.alloc (Obj.cells #[Value.bool b1,.slice A1 k1 c1] 98)).alloc (Obj.cells #[Value.bool b1,.slice A2 k2 c2] 98)).alloc (Obj.cells #[Value.bool false,Value.slice none 0 0] 98))=W at *
 have HG:=zc hB.big
 have HB:=zc hB
 clear hB
 have HM1:Hid (NatIs W.drew (.slice A1 k1 c1) n1):=(HN1.out.below HB.out.below).below (Below.refl _ _).drew
 have HM2:Hid (NatIs W.drew (.slice A2 k2 c2) n2):=(HN2.out.below HB.out.below).below (Below.refl _ _).drew
 have HD:Hid (Below W.heap.size W W.drew):=(Below.refl _ _).drew
 go_region_held3 (fun w'=>w'.cell? ⟨w.heap.size,0,none⟩=some (.bool b1)/\w'.cell? ⟨w.heap.size,1,none⟩=some (.slice A1 k1 c1)/\w'.cell? ⟨w.heap.size+1,0,none⟩=some (.bool b1)/\w'.cell? ⟨w.heap.size+1,1,none⟩=some (.slice A2 k2 c2)/\Below (w.heap.size+1+1) W w')
  ((first | exact HB.out.held (HD.out.mono HG.out) | exact HB.out.held HW1.out | exact HB.out.held HW2.out | exact HB.out.held ((HW2.out.setCell (zv _) _).setCell (zv _) _)))
  ((first
    | (go_at_call 228; refine (zi4 _ _ n1 n2 _ HM1.out HM2.out hl1 hl2).mono ?_; rintro e w1 ⟨v1, rfl, hv1, hb1⟩; obtain ⟨A3, k3, c3, rfl, HV1⟩ := hv1.slice;
       have HB1:Hid (Below W.heap.size W w1):=HD.out.trans (hb1.mono HD.out.size); have HW1:Hid (Below (w.heap.size+1+1) W w1):=HB1.out.mono HG.out; clear hb1 hv1)
    | (go_at_call 160; refine (zdE b1 _ (n1 + n2) _ HV1.out).mono ?_; rintro e w2 ⟨b', rfl, HS, hb1⟩;
       have HB2:Hid (Below W.heap.size W w2):=HB1.out.trans (hb1.mono HB1.out.size); have HW2:Hid (Below (w.heap.size+1+1) W w2):=HB2.out.mono HG.out; have HV2:=zc (HV1.out.below hb1);
       have HR:=zc (HB.out.res.below HB2.out); have hr0:=HR.out.cell0; have hr1:=HR.out.cell1; have hr2:=HR.out.frozen 0; have hr3:=HR.out.frozen 1; clear hb1)))
 have hbe:Below w.heap.size w w2:=HB.out.below.trans (HB2.out.mono (by have:=HG.out; omega))
 obtain ⟨ht,hv,hf⟩:=zfR b' hbe HR.out (by omega) HV2.out
 have h0:=ht.cell0
 have h1:=ht.cell1
 have HV3:=zc hv; have HF:=zc hf
 clear hbe hv hf ht hr0 hr1 hr2 hr3
 go_wp2_with fail
 simp [bodyPost,results,Tryz.results199,go_sem,h0,h1]
 exact ⟨by have:=HS.out _ HV3.out; rwa [HX.out] at this,HF.out⟩
theorem zkA (b1 b2:Bool) (A1 A2:Option Addr) (k1 k2 c1 c2 n1 n2:Nat) (z:Int) (w:World) (HN1:Hid (NatIs w (.slice A1 k1 c1) n1)) (HN2:Hid (NatIs w (.slice A2 k2 c2) n2)) (hl1:wl n1 <= MaxW) (hl2:wl n2 <= MaxW) (hb:(b1 == b2)=false) (hle:n2 <= n1) (HX:Hid (sgn b1 (n1 - n2)=z)):
  Calls Tryz.prog 199 #[.agg #[.bool b1,.slice A1 k1 c1],.agg #[.bool b2,.slice A2 k2 c2]] w fun e w'=>∃ v,e = .returned v/\IntIs w' v z/\Below w.heap.size w w':=by
 have hcc:∃ y:Int,cmpN n1 n2=y/\0 <= y/\y <= 1:=by
  rcases Nat.lt_or_ge n2 n1 with h | h
  ·exact ⟨1,zbR h,by omega,by omega⟩
  ·obtain rfl : n1 = n2 := by omega
   exact ⟨0,zbS n1,by omega,by omega⟩
 obtain ⟨y,hy,hy0,hy1⟩:=hcc
 have HY:=zc hy
 have HLE:=zc hle
 clear hy hle
 go_enter Tryz.func199,Tryz.ntmps199
 go_wp2_with fail
 have hB:=boxed w b1 b2 (.slice A1 k1 c1) (.slice A2 k2 c2)
 generalize (((w.alloc (Obj.cells #[Value.bool b1,.slice A1 k1 c1] 98)).alloc (Obj.cells #[Value.bool b2,.slice A2 k2 c2] 98)).alloc (Obj.cells #[Value.bool false,Value.slice none 0 0] 98))=W at *
 have HG:=zc hB.big
 have HB:=zc hB
 clear hB
 refine (za7 _ _ n1 n2 _ (HN1.out.below HB.out.below) (HN2.out.below HB.out.below) hl1 hl2).mono ?_
 rintro e w0 ⟨rfl,hd0⟩
 rw [HY.out]
 have hcd:∀ p:Addr,w0.cell? p=W.cell? p:=by obtain ⟨_,rfl⟩:=hd0; exact fun _=>rfl
 have hc0:w0.cell? ⟨w.heap.size,0,none⟩=some (.bool b1):=(hcd _).trans HB.out.one.cell0
 have hc1:w0.cell? ⟨w.heap.size,1,none⟩=some (.slice A1 k1 c1):=(hcd _).trans HB.out.one.cell1
 have hc2:w0.cell? ⟨w.heap.size+1,0,none⟩=some (.bool b2):=(hcd _).trans HB.out.two.cell0
 have hc3:w0.cell? ⟨w.heap.size+1,1,none⟩=some (.slice A2 k2 c2):=(hcd _).trans HB.out.two.cell1
 have HD0:Hid (Below W.heap.size W w0):=hd0.below _
 have HM1:Hid (NatIs w0.drew (.slice A1 k1 c1) n1):=((HN1.out.below HB.out.below).below HD0.out).below (Below.refl _ _).drew
 have HM2:Hid (NatIs w0.drew (.slice A2 k2 c2) n2):=((HN2.out.below HB.out.below).below HD0.out).below (Below.refl _ _).drew
 have HD:Hid (Below W.heap.size W w0.drew):=HD0.out.trans (Below.refl _ _).drew
 clear hcd hd0
 go_wp2_with fail
 go_region_held3 (fun w'=>w'.cell? ⟨w.heap.size,0,none⟩=some (.bool b1)/\w'.cell? ⟨w.heap.size,1,none⟩=some (.slice A1 k1 c1)/\w'.cell? ⟨w.heap.size+1,0,none⟩=some (.bool b2)/\w'.cell? ⟨w.heap.size+1,1,none⟩=some (.slice A2 k2 c2)/\Below (w.heap.size+1+1) W w')
  ((first | exact HB.out.held (HD.out.mono HG.out) | exact HB.out.held HW1.out | exact HB.out.held HW2.out | exact HB.out.held ((HW2.out.setCell (zv _) _).setCell (zv _) _)))
  ((first
    | (go_at_call 241; refine (zi2 _ _ n1 n2 _ HM1.out HM2.out hl1 HLE.out).mono ?_; rintro e w1 ⟨v1, rfl, hv1, hb1⟩; obtain ⟨A3, k3, c3, rfl, HV1⟩ := hv1.slice;
       have HB1:Hid (Below W.heap.size W w1):=HD.out.trans (hb1.mono HD.out.size); have HW1:Hid (Below (w.heap.size+1+1) W w1):=HB1.out.mono HG.out; clear hb1 hv1)
    | (go_at_call 160; refine (zdE b1 _ (n1 - n2) _ HV1.out).mono ?_; rintro e w2 ⟨b', rfl, HS, hb2⟩;
       have HB2:Hid (Below W.heap.size W w2):=HB1.out.trans (hb2.mono HB1.out.size); have HW2:Hid (Below (w.heap.size+1+1) W w2):=HB2.out.mono HG.out; have HV2:=zc (HV1.out.below hb2);
       have HR:=zc (HB.out.res.below HB2.out); have hr0:=HR.out.cell0; have hr1:=HR.out.cell1; have hr2:=HR.out.frozen 0; have hr3:=HR.out.frozen 1; clear hb2)))
 have hbe:Below w.heap.size w w2:=HB.out.below.trans (HB2.out.mono (by have:=HG.out; omega))
 obtain ⟨ht,hv,hf⟩:=zfR b' hbe HR.out (by omega) HV2.out
 have h0:=ht.cell0
 have h1:=ht.cell1
 have HV3:=zc hv; have HF:=zc hf
 clear hbe hv hf ht hr0 hr1 hr2 hr3
 go_wp2_with fail
 simp [bodyPost,results,Tryz.results199,go_sem,h0,h1]
 exact ⟨by have:=HS.out _ HV3.out; rwa [HX.out] at this,HF.out⟩
theorem zkz (b1 b2:Bool) (A1 A2:Option Addr) (k1 k2 c1 c2 n1 n2:Nat) (z:Int) (w:World) (HN1:Hid (NatIs w (.slice A1 k1 c1) n1)) (HN2:Hid (NatIs w (.slice A2 k2 c2) n2)) (hl1:wl n1 <= MaxW) (hl2:wl n2 <= MaxW) (hb:(b1 == b2)=false) (hlt:n1 < n2) (HX:Hid (sgn b2 (n2 - n1)=z)):
  Calls Tryz.prog 199 #[.agg #[.bool b1,.slice A1 k1 c1],.agg #[.bool b2,.slice A2 k2 c2]] w fun e w'=>∃ v,e = .returned v/\IntIs w' v z/\Below w.heap.size w w':=by
 have HY:=zc (zb7 hlt)
 have HLE:=zc (Nat.le_of_lt hlt)
 clear hlt
 go_enter Tryz.func199,Tryz.ntmps199
 go_wp2_with fail
 have hB:=boxed w b1 b2 (.slice A1 k1 c1) (.slice A2 k2 c2)
 generalize (((w.alloc (Obj.cells #[Value.bool b1,.slice A1 k1 c1] 98)).alloc (Obj.cells #[Value.bool b2,.slice A2 k2 c2] 98)).alloc (Obj.cells #[Value.bool false,Value.slice none 0 0] 98))=W at *
 have HG:=zc hB.big
 have HB:=zc hB
 clear hB
 refine (za7 _ _ n1 n2 _ (HN1.out.below HB.out.below) (HN2.out.below HB.out.below) hl1 hl2).mono ?_
 rintro e w0 ⟨rfl,hd0⟩
 rw [HY.out]
 have hcd:∀ p:Addr,w0.cell? p=W.cell? p:=by obtain ⟨_,rfl⟩:=hd0; exact fun _=>rfl
 have hc0:w0.cell? ⟨w.heap.size,0,none⟩=some (.bool b1):=(hcd _).trans HB.out.one.cell0
 have hc1:w0.cell? ⟨w.heap.size,1,none⟩=some (.slice A1 k1 c1):=(hcd _).trans HB.out.one.cell1
 have hc2:w0.cell? ⟨w.heap.size+1,0,none⟩=some (.bool b2):=(hcd _).trans HB.out.two.cell0
 have hc3:w0.cell? ⟨w.heap.size+1,1,none⟩=some (.slice A2 k2 c2):=(hcd _).trans HB.out.two.cell1
 have HD0:Hid (Below W.heap.size W w0):=hd0.below _
 have HM1:Hid (NatIs w0.drew (.slice A1 k1 c1) n1):=((HN1.out.below HB.out.below).below HD0.out).below (Below.refl _ _).drew
 have HM2:Hid (NatIs w0.drew (.slice A2 k2 c2) n2):=((HN2.out.below HB.out.below).below HD0.out).below (Below.refl _ _).drew
 have HD:Hid (Below W.heap.size W w0.drew):=HD0.out.trans (Below.refl _ _).drew
 clear hcd hd0
 go_wp2_with fail
 go_region_held3 (fun w'=>w'.cell? ⟨w.heap.size,0,none⟩=some (.bool b1)/\w'.cell? ⟨w.heap.size,1,none⟩=some (.slice A1 k1 c1)/\w'.cell? ⟨w.heap.size+1,0,none⟩=some (.bool b2)/\w'.cell? ⟨w.heap.size+1,1,none⟩=some (.slice A2 k2 c2)/\Below (w.heap.size+1+1) W w')
  ((first | exact HB.out.held (HD.out.mono HG.out) | exact HB.out.held HW1.out | exact HB.out.held HW2.out | exact HB.out.held ((HW2.out.setCell (zv _) _).setCell (zv _) _)))
  ((first
    | (go_at_call 241; refine (zi2 _ _ n2 n1 _ HM2.out HM1.out hl2 HLE.out).mono ?_; rintro e w1 ⟨v1, rfl, hv1, hb1⟩; obtain ⟨A3, k3, c3, rfl, HV1⟩ := hv1.slice;
       have HB1:Hid (Below W.heap.size W w1):=HD.out.trans (hb1.mono HD.out.size); have HW1:Hid (Below (w.heap.size+1+1) W w1):=HB1.out.mono HG.out; clear hb1 hv1)
    | (go_at_call 160; refine (zdE b2 _ (n2 - n1) _ HV1.out).mono ?_; rintro e w2 ⟨b', rfl, HS, hb2⟩;
       have HB2:Hid (Below W.heap.size W w2):=HB1.out.trans (hb2.mono HB1.out.size); have HW2:Hid (Below (w.heap.size+1+1) W w2):=HB2.out.mono HG.out; have HV2:=zc (HV1.out.below hb2);
       have HR:=zc (HB.out.res.below HB2.out); have hr0:=HR.out.cell0; have hr1:=HR.out.cell1; have hr2:=HR.out.frozen 0; have hr3:=HR.out.frozen 1; clear hb2)))
 have hbe:Below w.heap.size w w2:=HB.out.below.trans (HB2.out.mono (by have:=HG.out; omega))
 obtain ⟨ht,hv,hf⟩:=zfR b' hbe HR.out (by omega) HV2.out
 have h0:=ht.cell0
 have h1:=ht.cell1
 have HV3:=zc hv; have HF:=zc hf
 clear hbe hv hf ht hr0 hr1 hr2 hr3
 go_wp2_with fail
 simp [bodyPost,results,Tryz.results199,go_sem,h0,h1]
 exact ⟨by have:=HS.out _ HV3.out; rwa [HX.out] at this,HF.out⟩
theorem zjJ {x y:Int} (h:decide (x < 0)=decide (y < 0)):sgn (decide (x < 0)) (x.natAbs+y.natAbs)=x+y:=by
 have:(x < 0)=(y < 0):=by simpa using h
 unfold sgn
 by_cases hx:x < 0
 ·have hy : y < 0 := this ▸ hx
  simp [hx]; omega
 ·have hy : ¬ y < 0 := this ▸ hx
  simp [hx]; omega
theorem zeR {x y:Int} (h:(decide (x < 0) == decide (y < 0))=false) (hle:y.natAbs <= x.natAbs):sgn (decide (x < 0)) (x.natAbs - y.natAbs)=x+y:=by
 unfold sgn
 by_cases hx:x < 0 <;> by_cases hy:y < 0
 ·simp [hx,hy] at h
 ·simp [hx]; omega
 ·simp [hx]; omega
 ·simp [hx,hy] at h
theorem zlT (v1 v2:Value) (x y:Int) (w:World) (h1:IntIs w v1 x) (h2:IntIs w v2 y) (hl1:wl x.natAbs <= MaxW) (hl2:wl y.natAbs <= MaxW):
  Calls Tryz.prog 199 #[v1,v2] w fun e w'=>∃ v,e = .returned v/\IntIs w' v (x+y)/\Below w.heap.size w w':=by
 obtain ⟨b1,A1,k1,c1,rfl,HB1,HN1⟩:=h1.agg
 obtain ⟨b2,A2,k2,c2,rfl,HB2,HN2⟩:=h2.agg
 have e1:=HB1.out
 have e2:=HB2.out
 subst e1 e2
 cases hb:(decide (x < 0) == decide (y < 0))
 ·rcases Nat.lt_or_ge x.natAbs y.natAbs with h | h
  ·refine zkz _ _ A1 A2 k1 k2 c1 c2 _ _ (x + y) w HN1 HN2 hl1 hl2 hb h ?_
   have:=zeR (x:=y) (y:=x) (by rw [Bool.beq_comm]; exact hb) (Nat.le_of_lt h)
   rw [Int.add_comm]
   exact this
  ·exact zkA _ _ A1 A2 k1 k2 c1 c2 _ _ (x+y) w HN1 HN2 hl1 hl2 hb h (zeR hb h)
 ·have hb' : decide (x < 0) = decide (y < 0) := by simpa using hb
  exact zh8 _ _ A1 A2 k1 k2 c1 c2 _ _ (x+y) w HN1 HN2 hl1 hl2 hb' (zjJ hb')
theorem zl1 {w w2:World} {r:Nat} {A:Option Addr} {k c:Nat} {b:Bool} {z:Int} {b0:Bool} {A0:Option Addr} {k0 c0:Nat} (hb:Below w.heap.size w w2) (hr:Two w2 r (.bool b0) (.slice A0 k0 c0)) (hg:w.heap.size <= r) (hv:IntIs w2 (.agg #[.bool b,.slice A k c]) z):
  Two ((w2.setCell ⟨r,0,none⟩ (.bool b)).setCell ⟨r,1,none⟩ (.slice A k c)) r (.bool b) (.slice A k c) /\
  IntIs ((w2.setCell ⟨r,0,none⟩ (.bool b)).setCell ⟨r,1,none⟩ (.slice A k c)) (.agg #[.bool b,.slice A k c]) z /\
  Below w.heap.size w ((w2.setCell ⟨r,0,none⟩ (.bool b)).setCell ⟨r,1,none⟩ (.slice A k c)):=by
 obtain ⟨m,e,hm⟩:=hv
 injection e with e
 obtain ⟨e1,e2⟩:b=decide (z < 0)/\(.slice A k c:Value)=m:=by simpa using e
 subst e2
 exact ⟨hr.set_ _ _,⟨_,by rw [e1],hm.setTwo hr _ _⟩,(hb.setCell (p:=⟨r,0,none⟩) hg _).setCell (p:=⟨r,1,none⟩) hg _⟩
theorem int_Sub (v1 v2:Value) (x y:Int) (w:World) (h1:IntIs w v1 x) (h2:IntIs w v2 y) (hl1:wl x.natAbs <= MaxW) (hl2:wl y.natAbs <= MaxW):
  Calls Tryz.prog 239 #[v1,v2] w fun e w'=>∃ v,e = .returned v/\IntIs w' v (x - y)/\Below w.heap.size w w':=by
 have H1:=zc h1; have H2:=zc h2
 obtain ⟨b1,A1,k1,c1,rfl,_,_⟩:=h1.agg
 obtain ⟨b2,A2,k2,c2,rfl,_,_⟩:=h2.agg
 clear h1 h2
 go_enter Tryz.func239,Tryz.ntmps239
 go_wp2_with fail
 have hB:=boxed w b1 b2 (.slice A1 k1 c1) (.slice A2 k2 c2)
 generalize (((w.alloc (Obj.cells #[Value.bool b1,.slice A1 k1 c1] 98)).alloc (Obj.cells #[Value.bool b2,.slice A2 k2 c2] 98)).alloc (Obj.cells #[Value.bool false,Value.slice none 0 0] 98))=W at *
 have HG:=zc hB.big
 have HB:=zc hB
 clear hB
 have hc0:=HB.out.one.cell0
 have hc1:=HB.out.one.cell1
 have hc2:=HB.out.two.cell0
 have hc3:=HB.out.two.cell1
 have HD:Hid (Below W.heap.size W W.drew):=(Below.refl _ _).drew
 have HM1:Hid (IntIs W.drew (.agg #[.bool b1,.slice A1 k1 c1]) x):=(H1.out.below HB.out.below).below (Below.refl _ _).drew
 have HM2:Hid (IntIs W.drew (.agg #[.bool b2,.slice A2 k2 c2]) y):=(H2.out.below HB.out.below).below (Below.refl _ _).drew
 go_region_held3 (fun w'=>w'.cell? ⟨w.heap.size,0,none⟩=some (.bool b1)/\w'.cell? ⟨w.heap.size,1,none⟩=some (.slice A1 k1 c1)/\w'.cell? ⟨w.heap.size+1,0,none⟩=some (.bool b2)/\w'.cell? ⟨w.heap.size+1,1,none⟩=some (.slice A2 k2 c2)/\Below (w.heap.size+1+1) W w')
  ((first | exact HB.out.held (HD.out.mono HG.out) | exact HB.out.held HW1.out | exact HB.out.held HW2.out | exact HB.out.held ((HW2.out.setCell (zv _) _).setCell (zv _) _)))
  ((first
    | (go_at_call 197; refine (zlR _ y _ HM2.out).mono ?_; rintro e w1 ⟨v3, rfl, hv1, hb1⟩; have HV1 := zc hv1;
       have HB1:Hid (Below W.heap.size W w1):=HD.out.trans (hb1.mono HD.out.size); have HW1:Hid (Below (w.heap.size+1+1) W w1):=HB1.out.mono HG.out; have HM3:=zc (HM1.out.below hb1); clear hb1 hv1)
    | (go_at_call 199; refine (zlT _ _ x (-y) _ HM3.out HV1.out hl1 (by rw [Int.natAbs_neg]; exact hl2)).mono ?_; rintro e w2 ⟨v4, rfl, hv2, hb2⟩; have HV2 := zc hv2; obtain ⟨b4, A4, k4, c4, rfl, _, _⟩ := hv2.agg;
       have HB2:Hid (Below W.heap.size W w2):=HB1.out.trans (hb2.mono HB1.out.size); have HW2:Hid (Below (w.heap.size+1+1) W w2):=HB2.out.mono HG.out;
       have HR:=zc (HB.out.res.below HB2.out); have hr0:=HR.out.cell0; have hr1:=HR.out.cell1; have hr2:=HR.out.frozen 0; have hr3:=HR.out.frozen 1; clear hb2 hv2)))
 have hbe:Below w.heap.size w w2:=HB.out.below.trans (HB2.out.mono (by have:=HG.out; omega))
 obtain ⟨ht,hv,hf⟩:=zl1 hbe HR.out (by omega) HV2.out
 have h0:=ht.cell0
 have h1:=ht.cell1
 have HV3:=zc hv; have HF:=zc hf
 clear hbe hv hf ht hr0 hr1 hr2 hr3
 go_wp2_with fail
 simp [bodyPost,results,Tryz.results239,go_sem,h0,h1]
 exact ⟨HV3.out,HF.out⟩
class Nxt (w:outParam World) (w':World):Prop where
 out:Below w.heap.size w w'
class Was (W:World) (w:outParam World):Prop where
 out:W=w
class Ext (w w':World):Prop where
 out:Below w.heap.size w w'
class zbt (w:World) (n:Nat):Prop where
 out:w.heap.size=n
class Ge (n:Nat) (w:World):Prop where
 out:w.heap.size <= n
class But (W:World) (rs:List Nat) (w':World):Prop where
 os:w'.os=W.os
 tape:w'.tape=W.tape
 output:w'.output=W.output
 size:W.heap.size <= w'.heap.size
 block:∀ b,b < W.heap.size -> b ∉ rs -> w'.heap[b]?=W.heap[b]?
class ButO (W:outParam World) (rs:outParam (List Nat)) (w':World):Prop where
 out:But W rs w'
class InL (g:Nat) (rs:List Nat):Prop where
 out:g ∈ rs
class NotIn (g:Nat) (rs:List Nat):Prop where
 out:g ∉ rs
class NewIn (n:Nat) (w:outParam World):Prop where
 out:w.heap.size <= n
class Blk (w:World) (g:Nat) (t:outParam TypeId) (vs:outParam (Array Value)):Prop where
 out:w.heap[g]?=some (.cells vs t (0,0))
class InW (g:Nat) (w:World):Prop where
 out:g < w.heap.size
class LtN (a b:Nat):Prop where
 out:a < b
class Apart (a b:Nat):Prop where
 out:a ≠ b
class SetAt (vs:Array Value) (i:Nat) (x:Value) (vs':outParam (Array Value)):Prop where
 out:vs.setIfInBounds i x=vs'
class NW (v:Value):Prop where
 out:∀ u,v ≠ .int .u64 u
class zaj (vs:Array Value) (i:Nat):Prop where
 out:∀ u,vs[i]? ≠ some (.int .u64 u)
section
variable {w w' W X a:World} {g r n m i:Nat} {t:TypeId} {vs us:Array Value} {u x v:Value} {o:Obj}
instance Ext.was [h:Was W X] [k:Ext w X]:Ext w W:=⟨by rw [h.out]; exact k.out⟩
instance Ext.nxt [h:Nxt a w'] [k:Ext w a]:Ext w w':=⟨k.out.trans (h.out.mono k.out.size)⟩
instance Ext.set_ [k:Ext w X] [h:Ge g w]:Ext w (X.setCell ⟨g,i,none⟩ x):=⟨k.out.setCell h.out x⟩
instance Ext.drew [k:Ext w X]:Ext w X.drew:=⟨k.out.drew⟩
instance Ext.drewN {n:Nat} [k:Ext w X]:Ext w (X.drewN n):=⟨k.out.trans ⟨rfl,rfl,rfl,zv _,fun _ _=>rfl⟩⟩
instance Ext.alloc [k:Ext w X]:Ext w (X.alloc o):=⟨k.out.alloc k.out.size o⟩
instance Ext.refl:Ext w w:=⟨Below.refl _ _⟩
instance Ge.size [k:Ext w X]:Ge X.heap.size w:=⟨k.out.size⟩
instance Ge.succ [k:Ge n w]:Ge (n+1) w:=⟨Nat.le_succ_of_le k.out⟩
instance zbt.was [h:Was W X] [k:zbt X n]:zbt W n:=⟨by rw [h.out]; exact k.out⟩
instance zbt.set_ [k:zbt X n] {p:Addr}:zbt (X.setCell p x) n:=⟨by rw [World.size_setCell]; exact k.out⟩
instance zbt.drew [k:zbt X n]:zbt X.drew n:=⟨k.out⟩
instance zbt.drewN [k:zbt X n]:zbt (X.drewN m) n:=⟨k.out⟩
instance zbt.alloc [k:zbt X n]:zbt (X.alloc o) (n+1):=⟨by rw [World.size_alloc,k.out]⟩
instance zbt.self:zbt X X.heap.size:=⟨rfl⟩
theorem Blk.lt (h:Blk w g t vs):g < w.heap.size:=by
 rcases Nat.lt_or_ge g w.heap.size with hlt | hge
 ·exact hlt
 ·have h:=h.out; rw [Array.getElem?_eq_none hge] at h; cases h
instance Blk.was [h:Was W X] [k:Blk X g t vs]:Blk W g t vs:=⟨by rw [h.out]; exact k.out⟩
instance Blk.nxt [h:Nxt a w'] [k:Blk a g t vs]:Blk w' g t vs:=⟨(h.out.block g k.lt).trans k.out⟩
instance Blk.far [k:Blk X g t vs] [h:Apart g r]:Blk (X.setCell ⟨r,i,none⟩ x) g t vs:=⟨(Below.heap_setCell _ _ _ _ h.out).trans k.out⟩
instance Blk.set_ [k:Blk X g t vs] [h:SetAt vs i x us]:Blk (X.setCell ⟨g,i,none⟩ x) g t us:=⟨by
 have k:=k.out
 rw [<- h.out]
 simp [World.setCell,Array.getElem?_modify,k]⟩
instance Blk.drew [k:Blk X g t vs]:Blk X.drew g t vs:=⟨k.out⟩
instance Blk.drewN [k:Blk X g t vs]:Blk (X.drewN m) g t vs:=⟨k.out⟩
instance Blk.alloc [k:Blk X g t vs]:Blk (X.alloc o) g t vs:=⟨(((Below.refl X.heap.size X).alloc (zv _) o).block g k.lt).trans k.out⟩
instance Blk.new [k:zbt X g]:Blk (X.alloc (.cells vs t)) g t vs:=⟨by rw [<- k.out]; exact heap_alloc_new X _⟩
instance InW.blk [k:Blk X g t vs]:InW g X:=⟨k.lt⟩
instance But.refl {rs:List Nat}:But W rs W:=⟨rfl,rfl,rfl,zv _,fun _ _ _=>rfl⟩
instance But.hyp {rs:List Nat} [h:ButO W rs w']:But W rs w':=h.out
instance But.nxt {rs:List Nat} [h:Nxt a w'] [k:But W rs a]:But W rs w':=
 ⟨h.out.os.trans k.os,h.out.tape.trans k.tape,h.out.output.trans k.output,zo k.size h.out.size,fun b hb hr=>(h.out.block b (Nat.lt_of_lt_of_le hb k.size)).trans (k.block b hb hr)⟩
instance But.drew {rs:List Nat} [k:But W rs X]:But W rs X.drew:=⟨k.os,k.tape,k.output,k.size,k.block⟩
instance But.drewN {rs:List Nat} [k:But W rs X]:But W rs (X.drewN m):=⟨k.os,k.tape,k.output,k.size,k.block⟩
instance But.alloc {rs:List Nat} [k:But W rs X]:But W rs (X.alloc o):=
 let h:=(Below.refl X.heap.size X).alloc (zv _) o
 ⟨h.os.trans k.os,h.tape.trans k.tape,h.output.trans k.output,zo k.size h.size,fun b hb hr=>(h.block b (Nat.lt_of_lt_of_le hb k.size)).trans (k.block b hb hr)⟩
instance But.far {rs:List Nat} [k:But W rs X] [h:Ge g W]:But W rs (X.setCell ⟨g,i,none⟩ x):=
 ⟨k.os,k.tape,k.output,by rw [World.size_setCell]; exact k.size,fun b hb hr=>(Below.heap_setCell _ _ _ _ (by intro e; have:=h.out; simp only at e; omega)).trans (k.block b hb hr)⟩
instance But.set_ {rs:List Nat} [k:But W rs X] [h:InL g rs]:But W rs (X.setCell ⟨g,i,none⟩ x):=
 ⟨k.os,k.tape,k.output,by rw [World.size_setCell]; exact k.size,fun b hb hr=>(Below.heap_setCell _ _ _ _ (by intro e; exact hr (by rw [e]; exact h.out))).trans (k.block b hb hr)⟩
instance InL.tail {rs:List Nat} [h:InL g rs]:InL g (r :: rs):=⟨List.mem_cons_of_mem _ h.out⟩
instance InL.head {rs:List Nat}:InL g (g :: rs):=⟨List.mem_cons_self⟩
instance NotIn.nil:NotIn g []:=⟨by simp⟩
instance NotIn.cons {rs:List Nat} [h:Apart g r] [k:NotIn g rs]:NotIn g (r :: rs):=⟨by
 intro e
 rcases List.mem_cons.1 e with e | e
 ·exact h.out e
 ·exact k.out e⟩
instance Blk.but {rs:List Nat} [h:ButO a rs w'] [k:Blk a g t vs] [j:NotIn g rs]:Blk w' g t vs:=⟨(h.out.block g k.lt j.out).trans k.out⟩
instance LtN.new [h:NewIn g w] [k:InW r w]:LtN r g:=⟨Nat.lt_of_lt_of_le k.out h.out⟩
instance Ge.new [h:NewIn g a] [k:Ext w a]:Ge g w:=⟨zo k.out.size h.out⟩
instance LtN.size [k:InW g X]:LtN g X.heap.size:=⟨k.out⟩
instance LtN.succ [k:LtN n m]:LtN n (m+1):=⟨Nat.lt_succ_of_lt k.out⟩
instance LtN.one:LtN n (n+1):=⟨Nat.lt_succ_self n⟩
instance Apart.gt [k:LtN m n]:Apart n m:=⟨Nat.ne_of_gt k.out⟩
instance Apart.lt [k:LtN n m]:Apart n m:=⟨Nat.ne_of_lt k.out⟩
@[go_sem] theorem Blk.cell [k:Blk w g t vs]:w.cell? ⟨g,i,none⟩=vs[i]?:=by
 have k:=k.out
 simp only [World.cell?,k]
 simp
@[go_sem] theorem Blk.frozen [k:Blk w g t vs]:w.frozen? ⟨g,i,none⟩=false:=by
 have k:=k.out
 simp [World.frozen?,k]
instance {b:Bool}:NW (.bool b):=⟨by intro u e; cases e⟩
instance {A:Option Addr} {k c:Nat}:NW (.slice A k c):=⟨by intro u e; cases e⟩
instance {s:ByteArray}:NW (.string s):=⟨by intro u e; cases e⟩
instance {A:Option Addr}:NW (.pointer A):=⟨by intro u e; cases e⟩
instance {k:Int}:NW (.int .i64 k):=⟨by intro u e; cases e⟩
instance {k:Int}:NW (.int .u8 k):=⟨by intro u e; cases e⟩
theorem Below.drewN (B:Nat) (w:World) (m:Nat):Below B w (w.drewN m):=⟨rfl,rfl,rfl,zv _,fun _ _=>rfl⟩
theorem NatIs.setOwn (h:NatIs w v n) (hb:Blk w g t vs) (hi:zaj vs i):NatIs (w.setCell ⟨g,i,none⟩ x) v n:=by
 obtain ⟨B,d,rfl,h1,h2,h3⟩:=h
 refine ⟨B,d,rfl,h1,h2,h3.lt,fun j u hu=>?_⟩
 obtain ⟨ad,e,hl,hc⟩:=h3.at_ j u hu
 refine ⟨ad,e,by simpa [World.setCell] using hl,?_⟩
 by_cases hne:(ad.add j)=⟨g,i,none⟩
 ·exfalso
  rw [hne,cell_of_row w g i _ _ _ hb.out] at hc
  exact hi.out _ hc
 ·rw [World.cell?_setCell_other w ⟨g,i,none⟩ (ad.add j) x (by intro e; exact hne (by first | exact e | exact e.symm))]; exact hc
theorem IntIs.setOwn {z:Int} (h:IntIs w v z) (hb:Blk w g t vs) (hi:zaj vs i):IntIs (w.setCell ⟨g,i,none⟩ x) v z:=by
 obtain ⟨m,e,hm⟩:=h
 exact ⟨m,e,hm.setOwn hb hi⟩
instance NatIs.was_ [h:Was W X] [k:NatIs X v n]:NatIs W v n:=by rw [h.out]; exact k
instance NatIs.nxt_ [h:Nxt a w'] [k:NatIs a v n]:NatIs w' v n:=k.below h.out
instance NatIs.set_ [k:NatIs X v n] [hb:Blk X g t vs] [hi:zaj vs i]:NatIs (X.setCell ⟨g,i,none⟩ x) v n:=k.setOwn hb hi
instance NatIs.drew_ [k:NatIs X v n]:NatIs X.drew v n:=k.below (Below.refl _ _).drew
instance NatIs.drewN_ {m0:Nat} [k:NatIs X v n]:NatIs (X.drewN m0) v n:=k.below (Below.drewN _ _ _)
instance NatIs.alloc_ [k:NatIs X v n]:NatIs (X.alloc o) v n:=k.below ((Below.refl _ _).alloc (zv _) o)
instance IntIs.was_ {z:Int} [h:Was W X] [k:IntIs X v z]:IntIs W v z:=by rw [h.out]; exact k
instance IntIs.nxt_ {z:Int} [h:Nxt a w'] [k:IntIs a v z]:IntIs w' v z:=k.below h.out
instance IntIs.set_ {z:Int} [k:IntIs X v z] [hb:Blk X g t vs] [hi:zaj vs i]:IntIs (X.setCell ⟨g,i,none⟩ x) v z:=k.setOwn hb hi
instance IntIs.drew_ {z:Int} [k:IntIs X v z]:IntIs X.drew v z:=k.below (Below.refl _ _).drew
instance IntIs.drewN_ {z:Int} {m0:Nat} [k:IntIs X v z]:IntIs (X.drewN m0) v z:=k.below (Below.drewN _ _ _)
instance IntIs.alloc_ {z:Int} [k:IntIs X v z]:IntIs (X.alloc o) v z:=k.below ((Below.refl _ _).alloc (zv _) o)
end
instance {y0 x:Value}:SetAt #[y0] 0 x #[x]:=⟨rfl⟩
instance {y0 y1 x:Value}:SetAt #[y0,y1] 0 x #[x,y1]:=⟨rfl⟩
instance {y0 y1 x:Value}:SetAt #[y0,y1] 1 x #[y0,x]:=⟨rfl⟩
instance {y0 y1 y2 x:Value}:SetAt #[y0,y1,y2] 0 x #[x,y1,y2]:=⟨rfl⟩
instance {y0 y1 y2 x:Value}:SetAt #[y0,y1,y2] 1 x #[y0,x,y2]:=⟨rfl⟩
instance {y0 y1 y2 x:Value}:SetAt #[y0,y1,y2] 2 x #[y0,y1,x]:=⟨rfl⟩
instance {y0 y1 y2 y3 x:Value}:SetAt #[y0,y1,y2,y3] 0 x #[x,y1,y2,y3]:=⟨rfl⟩
instance {y0 y1 y2 y3 x:Value}:SetAt #[y0,y1,y2,y3] 1 x #[y0,x,y2,y3]:=⟨rfl⟩
instance {y0 y1 y2 y3 x:Value}:SetAt #[y0,y1,y2,y3] 2 x #[y0,y1,x,y3]:=⟨rfl⟩
instance {y0 y1 y2 y3 x:Value}:SetAt #[y0,y1,y2,y3] 3 x #[y0,y1,y2,x]:=⟨rfl⟩
instance {y0 y1 y2 y3 y4 x:Value}:SetAt #[y0,y1,y2,y3,y4] 0 x #[x,y1,y2,y3,y4]:=⟨rfl⟩
instance {y0 y1 y2 y3 y4 x:Value}:SetAt #[y0,y1,y2,y3,y4] 1 x #[y0,x,y2,y3,y4]:=⟨rfl⟩
instance {y0 y1 y2 y3 y4 x:Value}:SetAt #[y0,y1,y2,y3,y4] 2 x #[y0,y1,x,y3,y4]:=⟨rfl⟩
instance {y0 y1 y2 y3 y4 x:Value}:SetAt #[y0,y1,y2,y3,y4] 3 x #[y0,y1,y2,x,y4]:=⟨rfl⟩
instance {y0 y1 y2 y3 y4 x:Value}:SetAt #[y0,y1,y2,y3,y4] 4 x #[y0,y1,y2,y3,x]:=⟨rfl⟩
instance {y0 y1 y2 y3 y4 y5 x:Value}:SetAt #[y0,y1,y2,y3,y4,y5] 0 x #[x,y1,y2,y3,y4,y5]:=⟨rfl⟩
instance {y0 y1 y2 y3 y4 y5 x:Value}:SetAt #[y0,y1,y2,y3,y4,y5] 1 x #[y0,x,y2,y3,y4,y5]:=⟨rfl⟩
instance {y0 y1 y2 y3 y4 y5 x:Value}:SetAt #[y0,y1,y2,y3,y4,y5] 2 x #[y0,y1,x,y3,y4,y5]:=⟨rfl⟩
instance {y0 y1 y2 y3 y4 y5 x:Value}:SetAt #[y0,y1,y2,y3,y4,y5] 3 x #[y0,y1,y2,x,y4,y5]:=⟨rfl⟩
instance {y0 y1 y2 y3 y4 y5 x:Value}:SetAt #[y0,y1,y2,y3,y4,y5] 4 x #[y0,y1,y2,y3,x,y5]:=⟨rfl⟩
instance {y0 y1 y2 y3 y4 y5 x:Value}:SetAt #[y0,y1,y2,y3,y4,y5] 5 x #[y0,y1,y2,y3,y4,x]:=⟨rfl⟩
instance {y0 y1 y2 y3 y4 y5 y6 x:Value}:SetAt #[y0,y1,y2,y3,y4,y5,y6] 0 x #[x,y1,y2,y3,y4,y5,y6]:=⟨rfl⟩
instance {y0 y1 y2 y3 y4 y5 y6 x:Value}:SetAt #[y0,y1,y2,y3,y4,y5,y6] 1 x #[y0,x,y2,y3,y4,y5,y6]:=⟨rfl⟩
instance {y0 y1 y2 y3 y4 y5 y6 x:Value}:SetAt #[y0,y1,y2,y3,y4,y5,y6] 2 x #[y0,y1,x,y3,y4,y5,y6]:=⟨rfl⟩
instance {y0 y1 y2 y3 y4 y5 y6 x:Value}:SetAt #[y0,y1,y2,y3,y4,y5,y6] 3 x #[y0,y1,y2,x,y4,y5,y6]:=⟨rfl⟩
instance {y0 y1 y2 y3 y4 y5 y6 x:Value}:SetAt #[y0,y1,y2,y3,y4,y5,y6] 4 x #[y0,y1,y2,y3,x,y5,y6]:=⟨rfl⟩
instance {y0 y1 y2 y3 y4 y5 y6 x:Value}:SetAt #[y0,y1,y2,y3,y4,y5,y6] 5 x #[y0,y1,y2,y3,y4,x,y6]:=⟨rfl⟩
instance {y0 y1 y2 y3 y4 y5 y6 x:Value}:SetAt #[y0,y1,y2,y3,y4,y5,y6] 6 x #[y0,y1,y2,y3,y4,y5,x]:=⟨rfl⟩
instance {y0 y1 y2 y3 y4 y5 y6 y7 x:Value}:SetAt #[y0,y1,y2,y3,y4,y5,y6,y7] 0 x #[x,y1,y2,y3,y4,y5,y6,y7]:=⟨rfl⟩
instance {y0 y1 y2 y3 y4 y5 y6 y7 x:Value}:SetAt #[y0,y1,y2,y3,y4,y5,y6,y7] 1 x #[y0,x,y2,y3,y4,y5,y6,y7]:=⟨rfl⟩
instance {y0 y1 y2 y3 y4 y5 y6 y7 x:Value}:SetAt #[y0,y1,y2,y3,y4,y5,y6,y7] 2 x #[y0,y1,x,y3,y4,y5,y6,y7]:=⟨rfl⟩
instance {y0 y1 y2 y3 y4 y5 y6 y7 x:Value}:SetAt #[y0,y1,y2,y3,y4,y5,y6,y7] 3 x #[y0,y1,y2,x,y4,y5,y6,y7]:=⟨rfl⟩
instance {y0 y1 y2 y3 y4 y5 y6 y7 x:Value}:SetAt #[y0,y1,y2,y3,y4,y5,y6,y7] 4 x #[y0,y1,y2,y3,x,y5,y6,y7]:=⟨rfl⟩
instance {y0 y1 y2 y3 y4 y5 y6 y7 x:Value}:SetAt #[y0,y1,y2,y3,y4,y5,y6,y7] 5 x #[y0,y1,y2,y3,y4,x,y6,y7]:=⟨rfl⟩
instance {y0 y1 y2 y3 y4 y5 y6 y7 x:Value}:SetAt #[y0,y1,y2,y3,y4,y5,y6,y7] 6 x #[y0,y1,y2,y3,y4,y5,x,y7]:=⟨rfl⟩
instance {y0 y1 y2 y3 y4 y5 y6 y7 x:Value}:SetAt #[y0,y1,y2,y3,y4,y5,y6,y7] 7 x #[y0,y1,y2,y3,y4,y5,y6,x]:=⟨rfl⟩
instance {y0 y1 y2 y3 y4 y5 y6 y7 y8 x:Value}:SetAt #[y0,y1,y2,y3,y4,y5,y6,y7,y8] 0 x #[x,y1,y2,y3,y4,y5,y6,y7,y8]:=⟨rfl⟩
instance {y0 y1 y2 y3 y4 y5 y6 y7 y8 x:Value}:SetAt #[y0,y1,y2,y3,y4,y5,y6,y7,y8] 1 x #[y0,x,y2,y3,y4,y5,y6,y7,y8]:=⟨rfl⟩
instance {y0 y1 y2 y3 y4 y5 y6 y7 y8 x:Value}:SetAt #[y0,y1,y2,y3,y4,y5,y6,y7,y8] 2 x #[y0,y1,x,y3,y4,y5,y6,y7,y8]:=⟨rfl⟩
instance {y0 y1 y2 y3 y4 y5 y6 y7 y8 x:Value}:SetAt #[y0,y1,y2,y3,y4,y5,y6,y7,y8] 3 x #[y0,y1,y2,x,y4,y5,y6,y7,y8]:=⟨rfl⟩
instance {y0 y1 y2 y3 y4 y5 y6 y7 y8 x:Value}:SetAt #[y0,y1,y2,y3,y4,y5,y6,y7,y8] 4 x #[y0,y1,y2,y3,x,y5,y6,y7,y8]:=⟨rfl⟩
instance {y0 y1 y2 y3 y4 y5 y6 y7 y8 x:Value}:SetAt #[y0,y1,y2,y3,y4,y5,y6,y7,y8] 5 x #[y0,y1,y2,y3,y4,x,y6,y7,y8]:=⟨rfl⟩
instance {y0 y1 y2 y3 y4 y5 y6 y7 y8 x:Value}:SetAt #[y0,y1,y2,y3,y4,y5,y6,y7,y8] 6 x #[y0,y1,y2,y3,y4,y5,x,y7,y8]:=⟨rfl⟩
instance {y0 y1 y2 y3 y4 y5 y6 y7 y8 x:Value}:SetAt #[y0,y1,y2,y3,y4,y5,y6,y7,y8] 7 x #[y0,y1,y2,y3,y4,y5,y6,x,y8]:=⟨rfl⟩
instance {y0 y1 y2 y3 y4 y5 y6 y7 y8 x:Value}:SetAt #[y0,y1,y2,y3,y4,y5,y6,y7,y8] 8 x #[y0,y1,y2,y3,y4,y5,y6,y7,x]:=⟨rfl⟩
instance {y0:Value} [h:NW y0]:zaj #[y0] 0:=⟨fun u e=>h.out u (zl e)⟩
instance {y0 y1:Value} [h:NW y0]:zaj #[y0,y1] 0:=⟨fun u e=>h.out u (zl e)⟩
instance {y0 y1:Value} [h:NW y1]:zaj #[y0,y1] 1:=⟨fun u e=>h.out u (zl e)⟩
instance {y0 y1 y2:Value} [h:NW y0]:zaj #[y0,y1,y2] 0:=⟨fun u e=>h.out u (zl e)⟩
instance {y0 y1 y2:Value} [h:NW y1]:zaj #[y0,y1,y2] 1:=⟨fun u e=>h.out u (zl e)⟩
instance {y0 y1 y2:Value} [h:NW y2]:zaj #[y0,y1,y2] 2:=⟨fun u e=>h.out u (zl e)⟩
instance {y0 y1 y2 y3:Value} [h:NW y0]:zaj #[y0,y1,y2,y3] 0:=⟨fun u e=>h.out u (zl e)⟩
instance {y0 y1 y2 y3:Value} [h:NW y1]:zaj #[y0,y1,y2,y3] 1:=⟨fun u e=>h.out u (zl e)⟩
instance {y0 y1 y2 y3:Value} [h:NW y2]:zaj #[y0,y1,y2,y3] 2:=⟨fun u e=>h.out u (zl e)⟩
instance {y0 y1 y2 y3:Value} [h:NW y3]:zaj #[y0,y1,y2,y3] 3:=⟨fun u e=>h.out u (zl e)⟩
instance {y0 y1 y2 y3 y4:Value} [h:NW y0]:zaj #[y0,y1,y2,y3,y4] 0:=⟨fun u e=>h.out u (zl e)⟩
instance {y0 y1 y2 y3 y4:Value} [h:NW y1]:zaj #[y0,y1,y2,y3,y4] 1:=⟨fun u e=>h.out u (zl e)⟩
instance {y0 y1 y2 y3 y4:Value} [h:NW y2]:zaj #[y0,y1,y2,y3,y4] 2:=⟨fun u e=>h.out u (zl e)⟩
instance {y0 y1 y2 y3 y4:Value} [h:NW y3]:zaj #[y0,y1,y2,y3,y4] 3:=⟨fun u e=>h.out u (zl e)⟩
instance {y0 y1 y2 y3 y4:Value} [h:NW y4]:zaj #[y0,y1,y2,y3,y4] 4:=⟨fun u e=>h.out u (zl e)⟩
instance {y0 y1 y2 y3 y4 y5:Value} [h:NW y0]:zaj #[y0,y1,y2,y3,y4,y5] 0:=⟨fun u e=>h.out u (zl e)⟩
instance {y0 y1 y2 y3 y4 y5:Value} [h:NW y1]:zaj #[y0,y1,y2,y3,y4,y5] 1:=⟨fun u e=>h.out u (zl e)⟩
instance {y0 y1 y2 y3 y4 y5:Value} [h:NW y2]:zaj #[y0,y1,y2,y3,y4,y5] 2:=⟨fun u e=>h.out u (zl e)⟩
instance {y0 y1 y2 y3 y4 y5:Value} [h:NW y3]:zaj #[y0,y1,y2,y3,y4,y5] 3:=⟨fun u e=>h.out u (zl e)⟩
instance {y0 y1 y2 y3 y4 y5:Value} [h:NW y4]:zaj #[y0,y1,y2,y3,y4,y5] 4:=⟨fun u e=>h.out u (zl e)⟩
instance {y0 y1 y2 y3 y4 y5:Value} [h:NW y5]:zaj #[y0,y1,y2,y3,y4,y5] 5:=⟨fun u e=>h.out u (zl e)⟩
instance {y0 y1 y2 y3 y4 y5 y6:Value} [h:NW y0]:zaj #[y0,y1,y2,y3,y4,y5,y6] 0:=⟨fun u e=>h.out u (zl e)⟩
instance {y0 y1 y2 y3 y4 y5 y6:Value} [h:NW y1]:zaj #[y0,y1,y2,y3,y4,y5,y6] 1:=⟨fun u e=>h.out u (zl e)⟩
instance {y0 y1 y2 y3 y4 y5 y6:Value} [h:NW y2]:zaj #[y0,y1,y2,y3,y4,y5,y6] 2:=⟨fun u e=>h.out u (zl e)⟩
instance {y0 y1 y2 y3 y4 y5 y6:Value} [h:NW y3]:zaj #[y0,y1,y2,y3,y4,y5,y6] 3:=⟨fun u e=>h.out u (zl e)⟩
instance {y0 y1 y2 y3 y4 y5 y6:Value} [h:NW y4]:zaj #[y0,y1,y2,y3,y4,y5,y6] 4:=⟨fun u e=>h.out u (zl e)⟩
instance {y0 y1 y2 y3 y4 y5 y6:Value} [h:NW y5]:zaj #[y0,y1,y2,y3,y4,y5,y6] 5:=⟨fun u e=>h.out u (zl e)⟩
instance {y0 y1 y2 y3 y4 y5 y6:Value} [h:NW y6]:zaj #[y0,y1,y2,y3,y4,y5,y6] 6:=⟨fun u e=>h.out u (zl e)⟩
instance {y0 y1 y2 y3 y4 y5 y6 y7:Value} [h:NW y0]:zaj #[y0,y1,y2,y3,y4,y5,y6,y7] 0:=⟨fun u e=>h.out u (zl e)⟩
instance {y0 y1 y2 y3 y4 y5 y6 y7:Value} [h:NW y1]:zaj #[y0,y1,y2,y3,y4,y5,y6,y7] 1:=⟨fun u e=>h.out u (zl e)⟩
instance {y0 y1 y2 y3 y4 y5 y6 y7:Value} [h:NW y2]:zaj #[y0,y1,y2,y3,y4,y5,y6,y7] 2:=⟨fun u e=>h.out u (zl e)⟩
instance {y0 y1 y2 y3 y4 y5 y6 y7:Value} [h:NW y3]:zaj #[y0,y1,y2,y3,y4,y5,y6,y7] 3:=⟨fun u e=>h.out u (zl e)⟩
instance {y0 y1 y2 y3 y4 y5 y6 y7:Value} [h:NW y4]:zaj #[y0,y1,y2,y3,y4,y5,y6,y7] 4:=⟨fun u e=>h.out u (zl e)⟩
instance {y0 y1 y2 y3 y4 y5 y6 y7:Value} [h:NW y5]:zaj #[y0,y1,y2,y3,y4,y5,y6,y7] 5:=⟨fun u e=>h.out u (zl e)⟩
instance {y0 y1 y2 y3 y4 y5 y6 y7:Value} [h:NW y6]:zaj #[y0,y1,y2,y3,y4,y5,y6,y7] 6:=⟨fun u e=>h.out u (zl e)⟩
instance {y0 y1 y2 y3 y4 y5 y6 y7:Value} [h:NW y7]:zaj #[y0,y1,y2,y3,y4,y5,y6,y7] 7:=⟨fun u e=>h.out u (zl e)⟩
instance {y0 y1 y2 y3 y4 y5 y6 y7 y8:Value} [h:NW y0]:zaj #[y0,y1,y2,y3,y4,y5,y6,y7,y8] 0:=⟨fun u e=>h.out u (zl e)⟩
instance {y0 y1 y2 y3 y4 y5 y6 y7 y8:Value} [h:NW y1]:zaj #[y0,y1,y2,y3,y4,y5,y6,y7,y8] 1:=⟨fun u e=>h.out u (zl e)⟩
instance {y0 y1 y2 y3 y4 y5 y6 y7 y8:Value} [h:NW y2]:zaj #[y0,y1,y2,y3,y4,y5,y6,y7,y8] 2:=⟨fun u e=>h.out u (zl e)⟩
instance {y0 y1 y2 y3 y4 y5 y6 y7 y8:Value} [h:NW y3]:zaj #[y0,y1,y2,y3,y4,y5,y6,y7,y8] 3:=⟨fun u e=>h.out u (zl e)⟩
instance {y0 y1 y2 y3 y4 y5 y6 y7 y8:Value} [h:NW y4]:zaj #[y0,y1,y2,y3,y4,y5,y6,y7,y8] 4:=⟨fun u e=>h.out u (zl e)⟩
instance {y0 y1 y2 y3 y4 y5 y6 y7 y8:Value} [h:NW y5]:zaj #[y0,y1,y2,y3,y4,y5,y6,y7,y8] 5:=⟨fun u e=>h.out u (zl e)⟩
instance {y0 y1 y2 y3 y4 y5 y6 y7 y8:Value} [h:NW y6]:zaj #[y0,y1,y2,y3,y4,y5,y6,y7,y8] 6:=⟨fun u e=>h.out u (zl e)⟩
instance {y0 y1 y2 y3 y4 y5 y6 y7 y8:Value} [h:NW y7]:zaj #[y0,y1,y2,y3,y4,y5,y6,y7,y8] 7:=⟨fun u e=>h.out u (zl e)⟩
instance {y0 y1 y2 y3 y4 y5 y6 y7 y8:Value} [h:NW y8]:zaj #[y0,y1,y2,y3,y4,y5,y6,y7,y8] 8:=⟨fun u e=>h.out u (zl e)⟩
@[go_sem] theorem get_1_0 {y0:Value}:#[y0][0]?=some y0:=rfl
@[go_sem] theorem get_2_0 {y0 y1:Value}:#[y0,y1][0]?=some y0:=rfl
@[go_sem] theorem get_2_1 {y0 y1:Value}:#[y0,y1][1]?=some y1:=rfl
@[go_sem] theorem get_3_0 {y0 y1 y2:Value}:#[y0,y1,y2][0]?=some y0:=rfl
@[go_sem] theorem get_3_1 {y0 y1 y2:Value}:#[y0,y1,y2][1]?=some y1:=rfl
@[go_sem] theorem get_3_2 {y0 y1 y2:Value}:#[y0,y1,y2][2]?=some y2:=rfl
@[go_sem] theorem get_4_0 {y0 y1 y2 y3:Value}:#[y0,y1,y2,y3][0]?=some y0:=rfl
@[go_sem] theorem get_4_1 {y0 y1 y2 y3:Value}:#[y0,y1,y2,y3][1]?=some y1:=rfl
@[go_sem] theorem get_4_2 {y0 y1 y2 y3:Value}:#[y0,y1,y2,y3][2]?=some y2:=rfl
@[go_sem] theorem get_4_3 {y0 y1 y2 y3:Value}:#[y0,y1,y2,y3][3]?=some y3:=rfl
@[go_sem] theorem get_5_0 {y0 y1 y2 y3 y4:Value}:#[y0,y1,y2,y3,y4][0]?=some y0:=rfl
@[go_sem] theorem get_5_1 {y0 y1 y2 y3 y4:Value}:#[y0,y1,y2,y3,y4][1]?=some y1:=rfl
@[go_sem] theorem get_5_2 {y0 y1 y2 y3 y4:Value}:#[y0,y1,y2,y3,y4][2]?=some y2:=rfl
@[go_sem] theorem get_5_3 {y0 y1 y2 y3 y4:Value}:#[y0,y1,y2,y3,y4][3]?=some y3:=rfl
@[go_sem] theorem get_5_4 {y0 y1 y2 y3 y4:Value}:#[y0,y1,y2,y3,y4][4]?=some y4:=rfl
@[go_sem] theorem get_6_0 {y0 y1 y2 y3 y4 y5:Value}:#[y0,y1,y2,y3,y4,y5][0]?=some y0:=rfl
@[go_sem] theorem get_6_1 {y0 y1 y2 y3 y4 y5:Value}:#[y0,y1,y2,y3,y4,y5][1]?=some y1:=rfl
@[go_sem] theorem get_6_2 {y0 y1 y2 y3 y4 y5:Value}:#[y0,y1,y2,y3,y4,y5][2]?=some y2:=rfl
@[go_sem] theorem get_6_3 {y0 y1 y2 y3 y4 y5:Value}:#[y0,y1,y2,y3,y4,y5][3]?=some y3:=rfl
@[go_sem] theorem get_6_4 {y0 y1 y2 y3 y4 y5:Value}:#[y0,y1,y2,y3,y4,y5][4]?=some y4:=rfl
@[go_sem] theorem get_6_5 {y0 y1 y2 y3 y4 y5:Value}:#[y0,y1,y2,y3,y4,y5][5]?=some y5:=rfl
@[go_sem] theorem get_7_0 {y0 y1 y2 y3 y4 y5 y6:Value}:#[y0,y1,y2,y3,y4,y5,y6][0]?=some y0:=rfl
@[go_sem] theorem get_7_1 {y0 y1 y2 y3 y4 y5 y6:Value}:#[y0,y1,y2,y3,y4,y5,y6][1]?=some y1:=rfl
@[go_sem] theorem get_7_2 {y0 y1 y2 y3 y4 y5 y6:Value}:#[y0,y1,y2,y3,y4,y5,y6][2]?=some y2:=rfl
@[go_sem] theorem get_7_3 {y0 y1 y2 y3 y4 y5 y6:Value}:#[y0,y1,y2,y3,y4,y5,y6][3]?=some y3:=rfl
@[go_sem] theorem get_7_4 {y0 y1 y2 y3 y4 y5 y6:Value}:#[y0,y1,y2,y3,y4,y5,y6][4]?=some y4:=rfl
@[go_sem] theorem get_7_5 {y0 y1 y2 y3 y4 y5 y6:Value}:#[y0,y1,y2,y3,y4,y5,y6][5]?=some y5:=rfl
@[go_sem] theorem get_7_6 {y0 y1 y2 y3 y4 y5 y6:Value}:#[y0,y1,y2,y3,y4,y5,y6][6]?=some y6:=rfl
@[go_sem] theorem get_8_0 {y0 y1 y2 y3 y4 y5 y6 y7:Value}:#[y0,y1,y2,y3,y4,y5,y6,y7][0]?=some y0:=rfl
@[go_sem] theorem get_8_1 {y0 y1 y2 y3 y4 y5 y6 y7:Value}:#[y0,y1,y2,y3,y4,y5,y6,y7][1]?=some y1:=rfl
@[go_sem] theorem get_8_2 {y0 y1 y2 y3 y4 y5 y6 y7:Value}:#[y0,y1,y2,y3,y4,y5,y6,y7][2]?=some y2:=rfl
@[go_sem] theorem get_8_3 {y0 y1 y2 y3 y4 y5 y6 y7:Value}:#[y0,y1,y2,y3,y4,y5,y6,y7][3]?=some y3:=rfl
@[go_sem] theorem get_8_4 {y0 y1 y2 y3 y4 y5 y6 y7:Value}:#[y0,y1,y2,y3,y4,y5,y6,y7][4]?=some y4:=rfl
@[go_sem] theorem get_8_5 {y0 y1 y2 y3 y4 y5 y6 y7:Value}:#[y0,y1,y2,y3,y4,y5,y6,y7][5]?=some y5:=rfl
@[go_sem] theorem get_8_6 {y0 y1 y2 y3 y4 y5 y6 y7:Value}:#[y0,y1,y2,y3,y4,y5,y6,y7][6]?=some y6:=rfl
@[go_sem] theorem get_8_7 {y0 y1 y2 y3 y4 y5 y6 y7:Value}:#[y0,y1,y2,y3,y4,y5,y6,y7][7]?=some y7:=rfl
@[go_sem] theorem get_9_0 {y0 y1 y2 y3 y4 y5 y6 y7 y8:Value}:#[y0,y1,y2,y3,y4,y5,y6,y7,y8][0]?=some y0:=rfl
@[go_sem] theorem get_9_1 {y0 y1 y2 y3 y4 y5 y6 y7 y8:Value}:#[y0,y1,y2,y3,y4,y5,y6,y7,y8][1]?=some y1:=rfl
@[go_sem] theorem get_9_2 {y0 y1 y2 y3 y4 y5 y6 y7 y8:Value}:#[y0,y1,y2,y3,y4,y5,y6,y7,y8][2]?=some y2:=rfl
@[go_sem] theorem get_9_3 {y0 y1 y2 y3 y4 y5 y6 y7 y8:Value}:#[y0,y1,y2,y3,y4,y5,y6,y7,y8][3]?=some y3:=rfl
@[go_sem] theorem get_9_4 {y0 y1 y2 y3 y4 y5 y6 y7 y8:Value}:#[y0,y1,y2,y3,y4,y5,y6,y7,y8][4]?=some y4:=rfl
@[go_sem] theorem get_9_5 {y0 y1 y2 y3 y4 y5 y6 y7 y8:Value}:#[y0,y1,y2,y3,y4,y5,y6,y7,y8][5]?=some y5:=rfl
@[go_sem] theorem get_9_6 {y0 y1 y2 y3 y4 y5 y6 y7 y8:Value}:#[y0,y1,y2,y3,y4,y5,y6,y7,y8][6]?=some y6:=rfl
@[go_sem] theorem get_9_7 {y0 y1 y2 y3 y4 y5 y6 y7 y8:Value}:#[y0,y1,y2,y3,y4,y5,y6,y7,y8][7]?=some y7:=rfl
@[go_sem] theorem get_9_8 {y0 y1 y2 y3 y4 y5 y6 y7 y8:Value}:#[y0,y1,y2,y3,y4,y5,y6,y7,y8][8]?=some y8:=rfl
structure NV where
 A:Option Addr
 k:Nat
 c:Nat
@[reducible,go_sem] def NV.v (s:NV):Value := .slice s.A s.k s.c
structure IV where
 b:Bool
 m:NV
@[reducible,go_sem] def IV.v (s:IV):Value := .agg #[.bool s.b,.slice s.m.A s.m.k s.m.c]
theorem NatIs.form {w:World} {v:Value} {n:Nat} (h:NatIs w v n):∃ s:NV,v=s.v:=by
 obtain ⟨A,c,rfl,_⟩:=h
 exact ⟨⟨A,_,c⟩,rfl⟩
theorem IntIs.form {w:World} {v:Value} {z:Int} (h:IntIs w v z):∃ s:IV,v=s.v/\Hid (s.b=decide (z < 0))/\NatIs w s.m.v z.natAbs:=by
 obtain ⟨m,rfl,hm⟩:=h
 obtain ⟨s,rfl⟩:=hm.form
 exact ⟨⟨_,s⟩,rfl,rfl,hm⟩
theorem IntIs.made {w:World} {s:NV} {z:Int} {b:Bool} {n:Nat} (h:NatIs w s.v n) (hn:z.natAbs=n) (hb:b=decide (z < 0)):IntIs w (.agg #[.bool b,s.v]) z:=⟨_,by rw [hb],by rw [hn]; exact h⟩
theorem zbh {w:World} {n:Nat} [h:Ge n w]:NewIn n w:=⟨h.out⟩
theorem zab {W w':World} {rs:List Nat} [h:But W rs w']:ButO W rs w':=⟨h⟩
theorem zaa {w w':World} [h:Ext w w']:Nxt w w':=⟨h.out⟩
def IRet (w:World) (z:Int) (e:Ending) (w':World):Prop:=∃ s:IV,e = .returned s.v/\IntIs w' s.v z/\Nxt w w'
def NRet (w:World) (n:Nat) (e:Ending) (w':World):Prop:=∃ s:NV,e = .returned s.v/\NatIs w' s.v n/\Nxt w w'
def PRet (w:World) (v:Value) (e:Ending) (w':World):Prop:=e = .returned v/\Nxt w w'
theorem IRet.of {w w':World} {z:Int} {e:Ending} (h:∃ v,e = .returned v/\IntIs w' v z/\Below w.heap.size w w'):IRet w z e w':=by
 obtain ⟨v,rfl,hv,hb⟩:=h
 obtain ⟨s,rfl,_,_⟩:=hv.form
 exact ⟨s,rfl,hv,⟨hb⟩⟩
theorem NRet.of {w w':World} {n:Nat} {e:Ending} (h:∃ v,e = .returned v/\NatIs w' v n/\Below w.heap.size w w'):NRet w n e w':=by
 obtain ⟨v,rfl,hv,hb⟩:=h
 obtain ⟨s,rfl⟩:=hv.form
 exact ⟨s,rfl,hv,⟨hb⟩⟩
class Wd (z:Int) (k:outParam Nat):Prop where
 out:wl z.natAbs <= k
theorem zbq {neg:Bool} {v:Value} {n:Nat} {w:World} [h:NatIs w v n]:
  Calls Tryz.prog 160 #[.bool neg,v] w fun e w'=>∃ b,e = .returned (.agg #[.bool b,v])/\IntIs w' (.agg #[.bool b,v]) (sgn neg n)/\Nxt w w':=
 (zeb neg v n w h).mono fun _ _ ⟨he,hb⟩=>⟨_,he,zfJ (h.below hb),⟨hb⟩⟩
theorem zhA {n:Nat} {w:World} {A:Option Addr} {k c:Nat} {ws:List Nat} (h:WordsAt w A ws) (hk:ws.length=k) (hc:k <= c) (hm:c <= maxLen) (hn:val ws=n):
  Calls Tryz.prog 214 #[.slice A k c] w fun e w'=>∃ s:NV,e = .returned s.v/\NatIs w' s.v n/\w=w':=by
 subst hk
 exact (zaK A c ws w h hc hm n hn).mono fun _ _ ⟨v,he,hv,hw⟩=>by
  obtain ⟨s,rfl⟩:=hv.form
  subst hw
  exact ⟨s,he,hv,rfl⟩
theorem Buf.one {w:World} {g x:Nat} (h:Buf w g [x]):WordsAt w (some ⟨g,0,none⟩) [x]:=by
 have hW:=h.words 0 1
 rwa [show ([x].drop 0).take 1=[x] from rfl] at hW
theorem Buf.ofBlk {w:World} {g x:Nat} [h:Blk w g 220 #[.int .u64 (x:Int)]] (hx:x < B64):Buf w g [x]:=
 ⟨fun y hy=>by rw [List.mem_singleton.1 hy]; exact hx,[],by rw [List.append_nil]; exact h.out⟩
theorem Buf.nat {w:World} {g x:Nat} (h:Buf w g [x]) (hx:x ≠ 0):NatIs w (.slice (some ⟨g,0,none⟩) 1 1) x:=by
 have hxb:=h.lt x List.mem_cons_self
 have hl1:limbs x=[x]:=by
  rw [zbb (by omega),Nat.mod_eq_of_lt hxb,Nat.div_eq_of_lt hxb,zao]
 exact ⟨_,1,by rw [hl1]; rfl,by rw [hl1]; exact zv _,by unfold maxLen; omega,by rw [hl1]; exact h.one⟩
theorem zkY (x:Nat) (hx:x < 2 ^ 63) (w:World):Calls Tryz.prog 141 #[.int .i64 (x:Int)] w (IRet w (x:Int)):=by
 have hlt:decide ((x:Int) < 0)=false:=by simp
 have hxb:x < B64:=by unfold B64; omega
 have hw:IntKind.u64.wrap (x:Int)=(x:Int):=wrapu hxb
 go_enter Tryz.func141,Tryz.ntmps141
 go_wp2_with ((first
  | (go_at_call 214; refine zf (zhA (ws:=[x]) (Buf.one (Buf.ofBlk hxb)) rfl (zv _) (by unfold maxLen; omega) (zbV x)) ?_; rintro e w1 ⟨s,rfl,_,rfl⟩)
  | (go_at_call 160; refine zf (zbq) ?_; rintro e w1 ⟨b,rfl,_,_⟩)))
 simp [bodyPost,results,Tryz.results141,go_sem]
 exact ⟨⟨_,_⟩,rfl,za,zaa⟩
theorem zkZ (x:Nat) (hx0:0 < x) (hx:x <= 2 ^ 63) (w:World):Calls Tryz.prog 141 #[.int .i64 (-(x:Int))] w (IRet w (-(x:Int))):=by
 obtain ⟨y,hy⟩:∃ y:Int,y = -(x:Int):=⟨_,rfl⟩
 rw [<- hy]
 have hlt:decide (y < 0)=true:=by rw [hy]; simp; omega
 have hxb:x < B64:=by unfold B64; omega
 have hw:IntKind.u64.wrap (-IntKind.u64.wrap y)=(x:Int):=by
  rw [hy,IntKind.wrap_u64,IntKind.wrap_u64]
  unfold B64 at hxb
  omega
 have HY:=zc (show y=sgn true x from hy)
 clear hy
 go_enter Tryz.func141,Tryz.ntmps141
 go_wp2_with ((go_at_call 160; refine zf (@zbq _ _ x _ ((Buf.ofBlk hxb).nat (by omega))) ?_; rintro e w1 ⟨b,rfl,_,_⟩))
 simp [bodyPost,results,Tryz.results141,go_sem]
 exact ⟨⟨_,⟨_,_,_⟩⟩,rfl,by rw [HY.out]; infer_instance,zaa⟩
theorem zaD {n:Int} (h0 : -(2 ^ 63) <= n) (h1:n < 2 ^ 63) {w:World}:Calls Tryz.prog 141 #[.int .i64 n] w (IRet w n):=by
 rcases Int.lt_or_le n 0 with h | h
 ·obtain ⟨x, rfl⟩ : ∃ x : Nat, n = -(x : Int) := ⟨n.natAbs, by omega⟩
  exact zkZ x (by omega) (by omega) w
 ·obtain ⟨x, rfl⟩ : ∃ x : Nat, n = (x : Int) := ⟨n.natAbs, by omega⟩
  exact zkY x (by omega) w
section
variable {v1 v2:Value} {x y:Int} {a b:Nat} {w:World} [h1:IntIs w v1 x] [h2:IntIs w v2 y] [d1:Wd x a] [d2:Wd y b]
theorem zah (h:a+b <= MaxW):Calls Tryz.prog 168 #[v1,v2] w (IRet w (x * y)):=(zi3 v1 v2 x y w h1 h2 (by have:=d1.out; omega) (by have:=d2.out; omega)).mono fun _ _ h => .of h
theorem zbm (h:a+b <= MaxW):Calls Tryz.prog 199 #[v1,v2] w (IRet w (x+y)):=(zlT v1 v2 x y w h1 h2 (by have:=d1.out; omega) (by have:=d2.out; omega)).mono fun _ _ h => .of h
theorem zcy (h:a+b <= MaxW):Calls Tryz.prog 239 #[v1,v2] w (IRet w (x - y)):=(int_Sub v1 v2 x y w h1 h2 (by have:=d1.out; omega) (by have:=d2.out; omega)).mono fun _ _ h => .of h
theorem zlS (h:a+b <= MaxW):Calls Tryz.prog 169 #[v1,v2] w (PRet w (.int .i64 (cmpI x y))):=(int_Cmp v1 v2 x y w h1 h2 (by have:=d1.out; omega) (by have:=d2.out; omega)).mono fun _ _ h=>⟨h.1,⟨h.2⟩⟩
theorem zaW (h:a <= MaxW):Calls Tryz.prog 163 #[v1] w (PRet w (.int .i64 (bl x.natAbs:Int))):=(zkC v1 x w h1 (by have:=d1.out; omega)).mono fun _ _ h=>⟨h.1,⟨h.2⟩⟩
end
section
variable {v1:Value} {x:Int} {w:World} [h1:IntIs w v1 x]
theorem zia:Calls Tryz.prog 197 #[v1] w (IRet w (-x)):=(zlR v1 x w h1).mono fun _ _ h => .of h
theorem zfI:Calls Tryz.prog 213 #[v1] w (IRet w (x.natAbs:Int)):=(int_Abs v1 x w h1).mono fun _ _ h => .of h
theorem zbd:Calls Tryz.prog 164 #[v1] w (PRet w (.int .i64 (sgnI x))):=(zna v1 x w h1).mono fun _ _ h=>⟨h.1,⟨h.2⟩⟩
end
section
variable {x y:Int} {a b n:Nat}
instance [h:Wd x a] [k:Wd y b]:Wd (x * y) (a+b):=⟨by
 rw [Int.natAbs_mul]
 exact zo (zgy _ _) (Nat.add_le_add h.out k.out)⟩
instance [h:Wd x a] [k:Wd y b]:Wd (x+y) (a+b+1):=⟨by
 refine zo (zar (Int.natAbs_add_le x y)) (zo (zhx _ _) ?_)
 have:=h.out; have:=k.out; omega⟩
instance [h:Wd x a]:Wd (-x) a:=⟨by rw [Int.natAbs_neg]; exact h.out⟩
instance [h:Wd x a] [k:Wd y b]:Wd (x - y) (a+b+1):=⟨by
 have:Wd (x + -y) (a+b+1):=za
 rw [Int.sub_eq_add_neg]; exact this.out⟩
instance [h:Wd x a]:Wd (x.natAbs:Int) a:=⟨h.out⟩
end
end Go.Proofs.YtombhkpniddceaaGreatDoor
