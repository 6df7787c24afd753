import Derived.Test.YtombhkpniddceaaGreatDoorM37
set_option maxHeartbeats 6400000
set_option maxRecDepth 100000
set_option synthInstance.maxSize 20000
set_option linter.all false
namespace Go.Proofs.YtombhkpniddceaaGreatDoor
open Go.Lib Go.RowKit Go.Sort
def rdE (n d:Int):Int:=max ((bl n.natAbs:Int) - (bl d.natAbs:Int) - 24) (-149)
def rExp (n d:Int):Int:=if 24 < bl (spS n d (rdE n d)).natAbs then rdE n d+1 else rdE n d
def rUp (s r u:Int):Int:=if 0 < cmpI (r * 2 ^ 1) u ∨ (cmpI (r * 2 ^ 1) u=0/\s.natAbs % 2=1) then s+1 else s
def rSig (n d:Int):Int:=rUp (spS n d (rExp n d)) (spR n d (rExp n d)) (spU d (rExp n d))
theorem Wd.le {x:Int} {a b:Nat} (h:Wd x a) (hab:a <= b):Wd x b:=⟨zo h.out hab⟩
section
variable {w:World} {v1 v2:Value} {n d:Int} {a:Nat}
theorem zlh [h1:IntIs w v1 n] [h2:IntIs w v2 d] [d1:Wd n a] [d2:Wd d a] (ha:a <= 2 ^ 20) (hd:0 < d) (hbn:bl n.natAbs <= 2 ^ 26) (hbd:bl d.natAbs <= 2 ^ 26):
  Calls Tryz.prog 218 #[v1,v2] w (fun e1 w'=>∃ s:IV,e1 = .returned (.tuple #[s.v,.int .i64 (rExp n d)])/\IntIs w' s.v (rSig n d)/\Nxt w w'):=by
 obtain ⟨s1,rfl,_,_⟩:=h1.form
 obtain ⟨s2,rfl,_,_⟩:=h2.form
 have hsz:∀ e:Int,-149 <= e -> e <= 2 ^ 27 -> Wd (spU d e) (2 ^ 28)/\Wd (spN n e) (2 ^ 28):=by
  intro e he0 he1
  exact ⟨(zgX d2).le (by omega),(zgX d1).le (by omega)⟩
 obtain ⟨E,hE⟩:∃ E,rdE n d=E:=⟨_,rfl⟩
 have hEb : -149 <= E/\E <= 2 ^ 26:=by rw [<- hE]; unfold rdE; omega
 obtain ⟨X,hX⟩:∃ X,rExp n d=X:=⟨_,rfl⟩
 have hX':X=if 24 < bl (spS n d E).natAbs then E+1 else E:=by rw [<- hX,<- hE]; rfl
 have hXb : -149 <= X/\X <= 2 ^ 26+1:=by rw [hX']; split <;> omega
 obtain ⟨u0,n0⟩:=hsz E (by omega) (by omega)
 obtain ⟨u1,n1⟩:=hsz X (by omega) (by omega)
 have wS0:Wd (spS n d E) (2 ^ 28+1):=by unfold spS; infer_instance
 have wSX:Wd (spS n d X) (2 ^ 28+1):=by unfold spS; infer_instance
 have HSIG:=zc (show rSig n d=rUp (spS n d X) (spR n d X) (spU d X) by rw [<- hX]; rfl)
 have HEV:=zc (show max ((bl n.natAbs:Int) - (bl d.natAbs:Int) - 24) (-149)=E from hE)
 have HD:=zc hd; have HEB:=zc hEb; have HXB:=zc hXb; have HXE:=zc hX'; have HA:=zc ha; have HBN:=zc hbn; have HBD:=zc hbd
 have HDZ:=zc (show d ≠ 0 by omega)
 have HSP:=zc (fun (w:World) (i1:IntIs w s1.v n) (i2:IntIs w s2.v d)=>zk6 (w:=w) (v1:=s1.v) (v2:=s2.v) (x:=n) (y:=d) (e:=E) (c:=2 ^ 28) (by omega) (by omega) (by omega) (by omega) (by omega) (by omega))
 have HSQ:=zc (fun (w:World) (i1:IntIs w s1.v n) (i2:IntIs w s2.v d)=>zk6 (w:=w) (v1:=s1.v) (v2:=s2.v) (x:=n) (y:=d) (e:=X) (c:=2 ^ 28) (by omega) (by omega) (by omega) (by omega) (by omega) (by omega))
 rw [hX]
 obtain ⟨p,hp⟩:∃ p:Int,(bl n.natAbs:Int)=p:=⟨_,rfl⟩
 obtain ⟨r,hr⟩:∃ r:Int,(bl d.natAbs:Int)=r:=⟨_,rfl⟩
 obtain ⟨m1,hm1⟩:∃ m1:Int,p - r=m1:=⟨_,rfl⟩
 obtain ⟨m2,hm2⟩:∃ m2:Int,m1 - 24=m2:=⟨_,rfl⟩
 have hw1:IntKind.i64.wrap (p - r)=m1:=by rw [zx]; omega
 have hw2:IntKind.i64.wrap (m1 - 24)=m2:=by rw [zx]; omega
 have hmx:max m2 (-149)=E:=by have:=HEV.out; rw [hp,hr,hm1,hm2] at this; exact this
 have HP:=zc hp; have HRR:=zc hr
 have hwe:IntKind.i64.wrap (E+1)=E+1:=by rw [zx]; omega
 clear hsz hE hEb hX hX' hXb ha hd hbn hbd hp hr hm1 hm2 HEV
 go_enter Tryz.func218,Tryz.ntmps218
 go_wp2_with fail
 (refine Code.nameW ?_; intro W hW; go_region_held3 (fun w'=>ButO W [] w') (exact zab) (((first | (go_at_call 163; refine zf (zaW (by have:=HA.out; unfold MaxW; omega)) ?_; (first | rw [HP.out] | rw [HRR.out]); rintro e3 w1 ⟨rfl,_⟩)))))
 all_goals go_wp2_with fail
 all_goals (refine zf (HSP.out _ za za) ?_; rintro e3 w2 ⟨sS,sR,sU,rfl,_,_,_,_⟩)
 all_goals go_wp2_with fail
 all_goals (refine zf (zaW (x:=spS n d E) (by decide)) ?_; rintro e3 w3 ⟨rfl,_⟩)
 all_goals (by_cases hb:24 < bl (spS n d E).natAbs)
 ·have hX : X = E + 1 := by have := HXE.out; rw [if_pos hb] at this; exact this
  subst hX
  have hb':decide ((24:Int) < (bl (spS n d E).natAbs:Int))=true:=by simp; omega
  have hb'':(24:Int) < (bl (spS n d E).natAbs:Int):=by omega
  clear hb
  go_wp2_with fail
  refine zf (HSQ.out _ za za) ?_
  rintro e3 w4 ⟨tS,tR,tU,rfl,_,_,_,_⟩
  go_wp2_with fail
  obtain ⟨c,hc⟩:∃ c,cmpI (spR n d (E+1) * 2 ^ 1) (spU d (E+1))=c:=⟨_,rfl⟩
  have HC:=Bx.mk hc
  obtain ⟨o,ho⟩:∃ o,decide ((spS n d (E+1)).natAbs % 2=1)=o:=⟨_,rfl⟩
  have HO:=zc ho
  have hU:rUp (spS n d (E+1)) (spR n d (E+1)) (spU d (E+1))=if 0 < c ∨ (c=0/\o=true) then spS n d (E+1)+1 else spS n d (E+1):=by
   unfold rUp; rw [hc,<- ho]; simp
  have wR:Wd (spR n d (E+1)) (2 ^ 28+(2 ^ 28+(2 ^ 28+1))+1):=by unfold spR; infer_instance
  have wR2:=zgX (n:=1) wR
  clear hc ho
  (refine Code.nameW ?_; intro W hW; go_region_held3 (fun w'=>ButO W [] w') (exact zab) ((first | (go_at_call 224; refine zf (zde (x:=spR n d (E+1)) (n:=1) (by decide) (by decide)) ?_; rintro e3 w5 ⟨s5,rfl,_,_⟩) | (go_at_call 169; refine zf (za2 (by decide) HC.out) ?_; rintro e3 w6 ⟨rfl,_⟩))))
  all_goals (rcases Int.lt_trichotomy c 0 with h | h | h)
  ·have HU := zc (hU.trans (if_neg (by omega)))
   have f1:decide (0 < c)=false:=by simp; omega
   have f2:(c == 0)=false:=by simp; omega
   clear hU h
   go_wp2_with (go_at_call 250; refine zf (zb3 (x:=spS n d (E+1))) ?_; rw [HO.out]; rintro e3 w7 ⟨rfl,_⟩)
   all_goals simp [bodyPost,results,Tryz.results218,go_sem]
   all_goals exact ⟨tS,(by repeat' (first | apply And.intro | rfl)),by rw [HSIG.out,HU.out]; infer_instance,zaa⟩
  ·subst h
   cases o
   ·have HU := zc (hU.trans (if_neg (by simp)))
    clear hU
    go_wp2_with (go_at_call 250; refine zf (zb3 (x:=spS n d (E+1))) ?_; rw [HO.out]; rintro e3 w7 ⟨rfl,_⟩)
    all_goals simp [bodyPost,results,Tryz.results218,go_sem]
    all_goals exact ⟨tS,(by repeat' (first | apply And.intro | rfl)),by rw [HSIG.out,HU.out]; infer_instance,zaa⟩
   ·have HU := zc (hU.trans (if_pos (by simp)))
    clear hU
    go_wp2_with (go_at_call 250; refine zf (zb3 (x:=spS n d (E+1))) ?_; rw [HO.out]; rintro e3 w7 ⟨rfl,_⟩)
    all_goals go_region_with ((first | (go_at_call 141; refine zf (zaD (n:=1) (by omega) (by omega)) ?_; rintro e w1 ⟨s1,rfl,_,_⟩) | (go_at_call 199; refine zf (zbm (by decide)) ?_; rintro e w1 ⟨s1,rfl,_,_⟩)))
    all_goals go_wp2_with fail
    all_goals simp [bodyPost,results,Tryz.results218,go_sem]
    all_goals exact ⟨_,(by repeat' (first | apply And.intro | rfl)),by rw [HSIG.out,HU.out]; infer_instance,zaa⟩
  ·have HU := zc (hU.trans (if_pos (by omega)))
   have f1:decide (0 < c)=true:=by simp; omega
   clear hU h
   go_wp2_with (go_at_call 250; refine zf (zb3 (x:=spS n d (E+1))) ?_; rw [HO.out]; rintro e3 w7 ⟨rfl,_⟩)
   all_goals go_region_with ((first | (go_at_call 141; refine zf (zaD (n:=1) (by omega) (by omega)) ?_; rintro e w1 ⟨s1,rfl,_,_⟩) | (go_at_call 199; refine zf (zbm (by decide)) ?_; rintro e w1 ⟨s1,rfl,_,_⟩)))
   all_goals go_wp2_with fail
   all_goals simp [bodyPost,results,Tryz.results218,go_sem]
   all_goals exact ⟨_,(by repeat' (first | apply And.intro | rfl)),by rw [HSIG.out,HU.out]; infer_instance,zaa⟩
 ·have hX : X = E := by have := HXE.out; rw [if_neg hb] at this; exact this
  subst hX
  have hb':decide ((24:Int) < (bl (spS n d X).natAbs:Int))=false:=by simp; omega
  have hb'':¬ (24:Int) < (bl (spS n d X).natAbs:Int):=by omega
  clear hb
  go_wp2_with fail
  obtain ⟨c,hc⟩:∃ c,cmpI (spR n d X * 2 ^ 1) (spU d X)=c:=⟨_,rfl⟩
  have HC:=Bx.mk hc
  obtain ⟨o,ho⟩:∃ o,decide ((spS n d X).natAbs % 2=1)=o:=⟨_,rfl⟩
  have HO:=zc ho
  have hU:rUp (spS n d X) (spR n d X) (spU d X)=if 0 < c ∨ (c=0/\o=true) then spS n d X+1 else spS n d X:=by
   unfold rUp; rw [hc,<- ho]; simp
  have wR:Wd (spR n d X) (2 ^ 28+(2 ^ 28+(2 ^ 28+1))+1):=by unfold spR; infer_instance
  have wR2:=zgX (n:=1) wR
  clear hc ho
  (refine Code.nameW ?_; intro W hW; go_region_held3 (fun w'=>ButO W [] w') (exact zab) ((first | (go_at_call 224; refine zf (zde (x:=spR n d X) (n:=1) (by decide) (by decide)) ?_; rintro e3 w5 ⟨s5,rfl,_,_⟩) | (go_at_call 169; refine zf (za2 (by decide) HC.out) ?_; rintro e3 w6 ⟨rfl,_⟩))))
  all_goals (rcases Int.lt_trichotomy c 0 with h | h | h)
  ·have HU := zc (hU.trans (if_neg (by omega)))
   have f1:decide (0 < c)=false:=by simp; omega
   have f2:(c == 0)=false:=by simp; omega
   clear hU h
   go_wp2_with (go_at_call 250; refine zf (zb3 (x:=spS n d X)) ?_; rw [HO.out]; rintro e3 w7 ⟨rfl,_⟩)
   all_goals simp [bodyPost,results,Tryz.results218,go_sem]
   all_goals exact ⟨sS,(by repeat' (first | apply And.intro | rfl)),by rw [HSIG.out,HU.out]; infer_instance,zaa⟩
  ·subst h
   cases o
   ·have HU := zc (hU.trans (if_neg (by simp)))
    clear hU
    go_wp2_with (go_at_call 250; refine zf (zb3 (x:=spS n d X)) ?_; rw [HO.out]; rintro e3 w7 ⟨rfl,_⟩)
    all_goals simp [bodyPost,results,Tryz.results218,go_sem]
    all_goals exact ⟨sS,(by repeat' (first | apply And.intro | rfl)),by rw [HSIG.out,HU.out]; infer_instance,zaa⟩
   ·have HU := zc (hU.trans (if_pos (by simp)))
    clear hU
    go_wp2_with (go_at_call 250; refine zf (zb3 (x:=spS n d X)) ?_; rw [HO.out]; rintro e3 w7 ⟨rfl,_⟩)
    all_goals go_region_with ((first | (go_at_call 141; refine zf (zaD (n:=1) (by omega) (by omega)) ?_; rintro e w1 ⟨s1,rfl,_,_⟩) | (go_at_call 199; refine zf (zbm (by decide)) ?_; rintro e w1 ⟨s1,rfl,_,_⟩)))
    all_goals go_wp2_with fail
    all_goals simp [bodyPost,results,Tryz.results218,go_sem]
    all_goals exact ⟨_,(by repeat' (first | apply And.intro | rfl)),by rw [HSIG.out,HU.out]; infer_instance,zaa⟩
  ·have HU := zc (hU.trans (if_pos (by omega)))
   have f1:decide (0 < c)=true:=by simp; omega
   clear hU h
   go_wp2_with (go_at_call 250; refine zf (zb3 (x:=spS n d X)) ?_; rw [HO.out]; rintro e3 w7 ⟨rfl,_⟩)
   all_goals go_region_with ((first | (go_at_call 141; refine zf (zaD (n:=1) (by omega) (by omega)) ?_; rintro e w1 ⟨s1,rfl,_,_⟩) | (go_at_call 199; refine zf (zbm (by decide)) ?_; rintro e w1 ⟨s1,rfl,_,_⟩)))
   all_goals go_wp2_with fail
   all_goals simp [bodyPost,results,Tryz.results218,go_sem]
   all_goals exact ⟨_,(by repeat' (first | apply And.intro | rfl)),by rw [HSIG.out,HU.out]; infer_instance,zaa⟩
end
end Go.Proofs.YtombhkpniddceaaGreatDoor
