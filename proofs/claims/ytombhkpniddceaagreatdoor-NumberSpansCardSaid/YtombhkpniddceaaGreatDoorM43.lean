import Derived.Test.YtombhkpniddceaaGreatDoorM41
import Derived.Test.YtombhkpniddceaaGreatDoorM42
set_option maxHeartbeats 6400000
set_option maxRecDepth 100000
set_option synthInstance.maxSize 20000
set_option linter.all false
namespace Go.Proofs.YtombhkpniddceaaGreatDoor
open Go.Lib Go.RowKit Go.Sort
section
variable {w:World} {v:Value} {q:Rat} {l:List UInt8} {dec a:Nat} {x y:Rat × Rat}
theorem znU [h1:RatIs w v q] [d1:Sz q a] [hg:Glo w] (ha:a <= 2 ^ 16) (hd:dec <= 2 ^ 20) (hx:CosIs (foldQ (q - Rat.divInt 1 4)) dec x):
  Calls Tryz.prog 147 #[v,.int .i64 (dec:Int)] w (VRet w x):=by
 obtain ⟨s,rfl,_,n1,k1,HE1⟩:=h1.form
 have HA:=zc ha; have HD:=zc hd
 have s14:Sz (Rat.divInt 1 4) 3:=⟨by decide +kernel,by decide +kernel⟩
 have HX:Hid (CosIs (foldQ (q - Rat.divInt 1 4)) dec x):=hx
 clear ha hd hx
 go_enter Tryz.func147,Tryz.ntmps147
 go_wp2_with fail
 (refine Code.nameW ?_; intro W hW; go_region_held3 (fun w'=>ButO W [w.heap.size+1] w') (exact zab) (((first | (go_at_call 116; refine zf (zcq (by decide) (by decide) (by decide) (by decide)) ?_; rintro e w1 ⟨q1,rfl,_,_⟩) | (go_at_call 185; refine zf (zcV (by have:=HA.out; omega)) ?_; rintro e w1 ⟨q1,rfl,_,_⟩) | (go_at_call 146; refine zf (zhj (q:=q - Rat.divInt 1 4) (x:=x) (by have:=HA.out; omega) (by exact HD.out) (by exact HX.out)) ?_; rintro e w1 ⟨p1,p2,rfl,_,_,_⟩)))))
 all_goals go_wp2_with fail
 all_goals simp [bodyPost,results,Tryz.results147,go_sem]
 all_goals exact ⟨_,_,rfl,za,za,zaa⟩
theorem Cos_c [hg:Glo w] [z1:Sz x.1 3000] [z2:Sz x.2 3000] (hl:l.length < 2 ^ 40) (he:turnE l (dec:Int)=0) (hd:dec <= 2 ^ 20) (hx:CosIs (foldQ (readQ l)) dec x):
  Calls Tryz.prog 59 #[str l,.int .i64 (dec:Int)] w (PRet w (zbw x)):=by
 have hr:=fun w=>zef (w:=w) (k:=(dec:Int)) hl
 rw [he] at hr
 have HR:=zc hr; have HD:=zc hd
 have HX:Hid (CosIs (foldQ (readQ l)) dec x):=hx
 have HV:=zc (show zbw x = .tuple #[spv (wLo x) (wHi x),.int .i64 (wE2 x)] from rfl)
 clear hl he hd hx hr
 go_enter Tryz.func59,Tryz.ntmps59
 go_wp2_with fail
 refine zf (HR.out _) ?_
 rintro e w1 ⟨q1,rfl,i1,_⟩
 have i1:RatIs w1 q1.v (readQ l):=zq_ok i1 rfl
 go_wp2_with ((first | (go_at_call 146; refine zf (zhj (q:=readQ l) (x:=x) (by decide) (by exact HD.out) (by exact HX.out)) ?_; rintro e w1 ⟨p1,p2,rfl,_,_,_⟩) | (go_at_call 74; refine zf (za8 (x:=x) (by decide) (by decide)) ?_; rintro e w3 ⟨rfl,_⟩)))
 simp [bodyPost,results,Tryz.results59,go_sem]
 exact ⟨by rw [HV.out],zaa⟩
theorem Sin_c [hg:Glo w] [z1:Sz x.1 3000] [z2:Sz x.2 3000] (hl:l.length < 2 ^ 40) (he:turnE l (dec:Int)=0) (hd:dec <= 2 ^ 20) (hx:CosIs (foldQ (readQ l - Rat.divInt 1 4)) dec x):
  Calls Tryz.prog 60 #[str l,.int .i64 (dec:Int)] w (PRet w (zbw x)):=by
 have hr:=fun w=>zef (w:=w) (k:=(dec:Int)) hl
 rw [he] at hr
 have HR:=zc hr; have HD:=zc hd
 have HX:Hid (CosIs (foldQ (readQ l - Rat.divInt 1 4)) dec x):=hx
 have HV:=zc (show zbw x = .tuple #[spv (wLo x) (wHi x),.int .i64 (wE2 x)] from rfl)
 clear hl he hd hx hr
 go_enter Tryz.func60,Tryz.ntmps60
 go_wp2_with fail
 refine zf (HR.out _) ?_
 rintro e w1 ⟨q1,rfl,i1,_⟩
 have i1:RatIs w1 q1.v (readQ l):=zq_ok i1 rfl
 go_wp2_with ((first | (go_at_call 147; refine zf (znU (q:=readQ l) (x:=x) (by decide) (by exact HD.out) (by exact HX.out)) ?_; rintro e w1 ⟨p1,p2,rfl,_,_,_⟩) | (go_at_call 74; refine zf (za8 (x:=x) (by decide) (by decide)) ?_; rintro e w3 ⟨rfl,_⟩)))
 simp [bodyPost,results,Tryz.results60,go_sem]
 exact ⟨by rw [HV.out],zaa⟩
theorem Turn_c [hg:Glo w] [z1:Sz x.1 3000] [z2:Sz x.2 3000] [z3:Sz y.1 3000] [z4:Sz y.2 3000] (hl:l.length < 2 ^ 40) (he:turnE l (dec:Int)=0) (hd:dec <= 2 ^ 20) (hx:CosIs (foldQ (readQ l)) dec x) (hy:CosIs (foldQ (readQ l - Rat.divInt 1 4)) dec y):
  Calls Tryz.prog 61 #[str l,.int .i64 (dec:Int)] w (PRet w (ze3 x y)):=by
 have hr:=fun w=>zef (w:=w) (k:=(dec:Int)) hl
 rw [he] at hr
 have HR:=zc hr; have HD:=zc hd
 have HX:Hid (CosIs (foldQ (readQ l)) dec x):=hx
 have HY:Hid (CosIs (foldQ (readQ l - Rat.divInt 1 4)) dec y):=hy
 have HV:=zc (show ze3 x y = .tuple #[bxv (bxA x y) (bxB x y) (bxC x y) (bxD x y),.int .i64 (bxE x y)] from rfl)
 clear hl he hd hx hy hr
 go_enter Tryz.func61,Tryz.ntmps61
 go_wp2_with fail
 refine zf (HR.out _) ?_
 rintro e w1 ⟨q1,rfl,i1,_⟩
 have i1:RatIs w1 q1.v (readQ l):=zq_ok i1 rfl
 go_wp2_with fail
 (refine Code.nameW ?_; intro W hW; go_region_held3 (fun w'=>ButO W [w.heap.size] w') (exact zab) (((first | (go_at_call 146; refine zf (zhj (q:=readQ l) (x:=x) (by decide) (by exact HD.out) (by exact HX.out)) ?_; rintro e w1 ⟨p1,p2,rfl,_,_,_⟩) | (go_at_call 147; refine zf (znU (q:=readQ l) (x:=y) (by decide) (by exact HD.out) (by exact HY.out)) ?_; rintro e w1 ⟨p1,p2,rfl,_,_,_⟩) | (go_at_call 148; refine zf (zee (x:=x) (y:=y) (by decide) (by decide) (by decide) (by decide)) ?_; rintro e w3 ⟨rfl,_⟩)))))
 all_goals go_wp2_with fail
 all_goals simp [bodyPost,results,Tryz.results61,go_sem]
 all_goals exact ⟨by rw [HV.out],zaa⟩
end
theorem zbD {x:Int} {a:Nat} (h:x.natAbs < (2 ^ 64) ^ a):Wd x a:=⟨zaf h⟩
theorem znG:zgT 5 ((10:Int) ^ 32) 23 3 where
 few:=by decide
 wd:=by
  have h:∀ i,i < 24 -> (zaF 5 ((10:Int) ^ 32) i).1.natAbs < (2 ^ 64) ^ 3/\(zaF 5 ((10:Int) ^ 32) i).2.natAbs < (2 ^ 64) ^ 3:=by decide +kernel
  intro i hi
  exact ⟨zbD (h i (by omega)).1,zbD (h i (by omega)).2⟩
 pos:=by decide +kernel
 last:=by decide +kernel
theorem zkO:zgT 239 ((10:Int) ^ 32) 7 3 where
 few:=by decide
 wd:=by
  have h:∀ i,i < 8 -> (zaF 239 ((10:Int) ^ 32) i).1.natAbs < (2 ^ 64) ^ 3/\(zaF 239 ((10:Int) ^ 32) i).2.natAbs < (2 ^ 64) ^ 3:=by decide +kernel
  intro i hi
  exact ⟨zbD (h i (by omega)).1,zbD (h i (by omega)).2⟩
 pos:=by decide +kernel
 last:=by decide +kernel
theorem pi32:piI ((10:Int) ^ 32) 23 7=314159265358979323846264338327972:=by decide +kernel
theorem q18:(Rat.divInt 1 8).num=1/\(Rat.divInt 1 8).den=8:=by decide +kernel
theorem ang18:angI (Rat.divInt 1 8) (piI ((10:Int) ^ 32) 23 7)=78539816339744830961566084581993:=by rw [pi32]; unfold angI; rw [q18.1,q18.2]; decide +kernel
theorem sq18:flr (78539816339744830961566084581993 * 78539816339744830961566084581993) ((10:Int) ^ 32)=61685027506808491367715568749234:=by decide +kernel
theorem zj9:CosOk (Rat.divInt 1 8) 32 23 7 14 3 where
 atan5:=znG
 atan239:=zkO
 wone:=zbD (by decide +kernel)
 wpi:=by rw [pi32]; exact zbD (by decide +kernel)
 wang:=by rw [ang18]; exact zbD (by decide +kernel)
 wsq:=by rw [ang18,sq18]; exact zbD (by decide +kernel)
 few:=by decide
 wd:=by
  rw [ang18,sq18]
  have h:∀ i,i < 15 -> (cosIt ((10:Int) ^ 32) 61685027506808491367715568749234 i).1.natAbs < (2 ^ 64) ^ 3/\(cosIt ((10:Int) ^ 32) 61685027506808491367715568749234 i).2.natAbs < (2 ^ 64) ^ 3:=by decide +kernel
  intro i hi
  exact ⟨zbD (h i (by omega)).1,zbD (h i (by omega)).2⟩
 pos:=by rw [ang18,sq18]; decide +kernel
 last:=by rw [ang18,sq18]; decide +kernel
theorem zn6:cosI (Rat.divInt 1 8) 32 23 7 14=70710678118654752440084436210479:=by unfold cosI; rw [ang18,sq18]; decide +kernel
theorem zlX:Rat.divInt 1 2 - Rat.divInt 3 8=Rat.divInt 1 8:=by decide +kernel
theorem zaZ {q:Rat} (h1:q.num.natAbs < 2 ^ 64) (h2:q.den < 2 ^ 64):Sz q 1:=⟨zaf (by rw [Nat.pow_one]; exact h1),zaf (by rw [Nat.pow_one]; exact h2)⟩
theorem rough18 {w:World} {v:Value} [h:RatIs w v (Rat.divInt 1 8)]:Calls Tryz.prog 248 #[v,.int .i64 32] w (IRet w 70710678118654752440084436210479):=by
 have s1:Sz (Rat.divInt 1 8) 1:=zaZ (by decide +kernel) (by decide +kernel)
 have h:=zcU (v:=v) (w:=w) (q:=Rat.divInt 1 8) (d:=32) (by decide) (by decide) (by decide) zj9 (by decide +kernel)
 rw [zn6] at h
 exact h
theorem rough38 {w:World} {v:Value} [h:RatIs w v (Rat.divInt 3 8)]:Calls Tryz.prog 248 #[v,.int .i64 32] w (IRet w (-70710678118654752440084436210479)):=by
 have s1:Sz (Rat.divInt 3 8) 1:=zaZ (by decide +kernel) (by decide +kernel)
 have h:=zeL (v:=v) (w:=w) (q:=Rat.divInt 3 8) (d:=32) (N:=23) (M:=7) (K:=14) (a:=3) (by decide) (by decide) (by decide) (by rw [zlX]; exact zj9) (by decide +kernel) (by rw [zlX]; decide +kernel)
 rw [zlX,zn6] at h
 exact h
theorem cosIs18:CosIs (Rat.divInt 1 8) 3 (stepI 707 3):=by
 refine Or.inr ⟨by decide +kernel,707,(zbC (by decide) (by decide)).le (by decide),rfl,?_⟩
 intro w v h
 have s1:Sz (Rat.divInt 1 8) 1:=zaZ (by decide +kernel) (by decide +kernel)
 have d2:Wd (70710678118654752440084436210479:Int) 2:=zbD (by decide +kernel)
 exact zd3 (q:=Rat.divInt 1 8) (rc:=70710678118654752440084436210479) (dec:=3) (by decide) (by decide) (by decide) rough18 (by decide +kernel) (by decide +kernel)
theorem cosIs38:CosIs (Rat.divInt 3 8) 3 (stepI (-708) 3):=by
 refine Or.inr ⟨by decide +kernel,-708,(zbC (by decide) (by decide)).le (by decide),rfl,?_⟩
 intro w v h
 have s1:Sz (Rat.divInt 3 8) 1:=zaZ (by decide +kernel) (by decide +kernel)
 have d2:Wd (-70710678118654752440084436210479:Int) 2:=zbD (by decide +kernel)
 exact zd3 (q:=Rat.divInt 3 8) (rc := -70710678118654752440084436210479) (dec:=3) (by decide) (by decide) (by decide) rough38 (by decide +kernel) (by decide +kernel)
theorem znr {w:World} [hg:Glo w]:Calls Tryz.prog 59 #[str [49,47,54],.int .i64 5] w (PRet w (.tuple #[spv [49,47,50] [49,47,50],.int .i64 0])):=by
 have z:Sz (Rat.divInt 1 2) 1:=zaZ (by decide +kernel) (by decide +kernel)
 have z1:Sz (Rat.divInt 1 2,Rat.divInt 1 2).1 3000:=z.le' (by decide)
 have z2:Sz (Rat.divInt 1 2,Rat.divInt 1 2).2 3000:=z.le' (by decide)
 have hf:foldQ (readQ [49,47,54])=Rat.divInt 1 6:=by decide +kernel
 have h:=Cos_c (w:=w) (l:=[49,47,54]) (dec:=5) (x:=(Rat.divInt 1 2,Rat.divInt 1 2)) (by decide) (by decide +kernel) (by decide) (by rw [hf]; exact Or.inl ⟨_,by decide +kernel,rfl⟩)
 rw [show zbw (Rat.divInt 1 2,Rat.divInt 1 2) = .tuple #[spv [49,47,50] [49,47,50],.int .i64 0] by
  have e1:wE2 (Rat.divInt 1 2,Rat.divInt 1 2)=0:=by decide +kernel
  have e2:wTxt (Rat.divInt 1 2)=[49,47,50]:=by decide +kernel
  simp only [zbw,e1,e2,if_true]] at h
 exact h
section
variable {w:World} [hg:Glo w]
theorem ex_of:Calls Tryz.prog 56 #[.int .i64 15,.int .i64 (-6)] w (PRet w (.tuple #[str [45,53,47,50],.int .i64 0])):=by
 have h:=Of_c (w:=w) (n:=15) (d := -6) (by decide) (by decide) (by decide) (by decide)
 rw [show ofV 15 (-6) = .tuple #[str [45,53,47,50],.int .i64 0] from by kernel_rfl] at h
 exact h
theorem zno:Calls Tryz.prog 57 #[str [45,53,47,50]] w (PRet w (.tuple #[str [45,51],.int .i64 0])):=by
 have h:=Floor_c (w:=w) (l:=[45,53,47,50]) (by decide)
 rw [show zj3 [45,53,47,50] = .tuple #[str [45,51],.int .i64 0] from by kernel_rfl] at h
 exact h
theorem znk:Calls Tryz.prog 24 #[spv [45,49] [50],spv [45,51] [52]] w (PRet w (.tuple #[spv [45,54] [56],.int .i64 0])):=by
 have h:=zqE (w:=w) (al:=[45,49]) (ah:=[50]) (bl:=[45,51]) (bh:=[52]) (by decide) (by decide) (by decide) (by decide)
 rw [show onS mulI [45,49] [50] [45,51] [52] = .tuple #[spv [45,54] [56],.int .i64 0] from by kernel_rfl] at h
 exact h
theorem ex_over:Calls Tryz.prog 25 #[spv [49] [50],spv [52] [56]] w (PRet w (.tuple #[spv [49,47,56] [49,47,50],.int .i64 0])):=by
 have h:=zqG (w:=w) (al:=[49]) (ah:=[50]) (bl:=[52]) (bh:=[56]) (by decide) (by decide) (by decide) (by decide)
 rw [show overV [49] [50] [52] [56] = .tuple #[spv [49,47,56] [49,47,50],.int .i64 0] from by kernel_rfl] at h
 exact h
theorem zl3:Calls Tryz.prog 18 #[spv [45,49] [50]] w (PRet w (.tuple #[spv [48] [52],.int .i64 0])):=by
 have h:=znN (w:=w) (l:=[45,49]) (h:=[50]) (by decide) (by decide)
 rw [show zea [45,49] [50] = .tuple #[spv [48] [52],.int .i64 0] from by kernel_rfl] at h
 exact h
theorem ex_less:Calls Tryz.prog 26 #[spv [49] [50],spv [51] [52]] w (PRet w (.tuple #[.int .i64 (-1),.int .i64 0])):=by
 have h:=ziH (w:=w) (al:=[49]) (ah:=[50]) (bl:=[51]) (bh:=[52]) (by decide) (by decide) (by decide) (by decide)
 rw [show ze0 [49] [50] [51] [52] = .tuple #[.int .i64 (-1),.int .i64 0] from by kernel_rfl] at h
 exact h
theorem ex_open:Calls Tryz.prog 26 #[spv [49] [50],spv [50] [51]] w (PRet w (.tuple #[.int .i64 0,.int .i64 24])):=by
 have h:=ziH (w:=w) (al:=[49]) (ah:=[50]) (bl:=[50]) (bh:=[51]) (by decide) (by decide) (by decide) (by decide)
 rw [show ze0 [49] [50] [50] [51] = .tuple #[.int .i64 0,.int .i64 24] from by kernel_rfl] at h
 exact h
theorem ex_root:Calls Tryz.prog 10 #[str [50],.int .i64 3] w (PRet w (.tuple #[spv [55,48,55,47,53,48,48] [50,56,51,47,50,48,48],.int .i64 0])):=by
 have h:=zql (w:=w) (l:=[50]) (n:=3) (x:=Rat.divInt 2 1) (rn:=1) (rd:=1) (r:=1414) (by decide) (by decide +kernel) (by decide +kernel) (by constructor <;> decide +kernel) (by constructor <;> decide +kernel) (by constructor <;> decide +kernel)
 rw [show zbw (rootI (Rat.divInt 2 1) 1 1 1414 3) = .tuple #[spv [55,48,55,47,53,48,48] [50,56,51,47,50,48,48],.int .i64 0] from by kernel_rfl] at h
 exact h
theorem znq:Calls Tryz.prog 59 #[str [49,47,56],.int .i64 3] w (PRet w (.tuple #[spv [55,48,55,47,49,48,48,48] [49,55,55,47,50,53,48],.int .i64 0])):=by
 have z1:Sz (stepI 707 3).1 3000:=(zaZ (by decide +kernel) (by decide +kernel)).le' (by decide)
 have z2:Sz (stepI 707 3).2 3000:=(zaZ (by decide +kernel) (by decide +kernel)).le' (by decide)
 have h:=Cos_c (w:=w) (l:=[49,47,56]) (dec:=3) (x:=stepI 707 3) (by decide) (by decide +kernel) (by decide) (by rw [show foldQ (readQ [49,47,56])=Rat.divInt 1 8 by decide +kernel]; exact cosIs18)
 rw [show zbw (stepI 707 3) = .tuple #[spv [55,48,55,47,49,48,48,48] [49,55,55,47,50,53,48],.int .i64 0] from by kernel_rfl] at h
 exact h
theorem znn:Calls Tryz.prog 60 #[str [45,49,47,56],.int .i64 3] w (PRet w (.tuple #[spv [45,49,55,55,47,50,53,48] [45,55,48,55,47,49,48,48,48],.int .i64 0])):=by
 have z1:Sz (stepI (-708) 3).1 3000:=(zaZ (by decide +kernel) (by decide +kernel)).le' (by decide)
 have z2:Sz (stepI (-708) 3).2 3000:=(zaZ (by decide +kernel) (by decide +kernel)).le' (by decide)
 have h:=Sin_c (w:=w) (l:=[45,49,47,56]) (dec:=3) (x:=stepI (-708) 3) (by decide) (by decide +kernel) (by decide) (by rw [show foldQ (readQ [45,49,47,56] - Rat.divInt 1 4)=Rat.divInt 3 8 by decide +kernel]; exact cosIs38)
 rw [show zbw (stepI (-708) 3) = .tuple #[spv [45,49,55,55,47,50,53,48] [45,55,48,55,47,49,48,48,48],.int .i64 0] from by kernel_rfl] at h
 exact h
theorem zl2:Calls Tryz.prog 61 #[str [49,47,52],.int .i64 2] w (PRet w (.tuple #[bxv [48] [48] [49] [49],.int .i64 0])):=by
 have z1:Sz ((Rat.divInt 0 1,Rat.divInt 0 1)).1 3000:=(zaZ (by decide +kernel) (by decide +kernel)).le' (by decide)
 have z2:Sz ((Rat.divInt 0 1,Rat.divInt 0 1)).2 3000:=(zaZ (by decide +kernel) (by decide +kernel)).le' (by decide)
 have z3:Sz ((Rat.divInt 1 1,Rat.divInt 1 1)).1 3000:=(zaZ (by decide +kernel) (by decide +kernel)).le' (by decide)
 have z4:Sz ((Rat.divInt 1 1,Rat.divInt 1 1)).2 3000:=(zaZ (by decide +kernel) (by decide +kernel)).le' (by decide)
 have h:=Turn_c (w:=w) (l:=[49,47,52]) (dec:=2) (x:=(Rat.divInt 0 1,Rat.divInt 0 1)) (y:=(Rat.divInt 1 1,Rat.divInt 1 1)) (by decide) (by decide +kernel) (by decide) (by rw [show foldQ (readQ [49,47,52])=Rat.divInt 1 4 by decide +kernel]; exact Or.inl ⟨_,by decide +kernel,rfl⟩) (by rw [show foldQ (readQ [49,47,52] - Rat.divInt 1 4)=Rat.divInt 0 1 by decide +kernel]; exact Or.inl ⟨_,by decide +kernel,rfl⟩)
 rw [show ze3 (Rat.divInt 0 1,Rat.divInt 0 1) (Rat.divInt 1 1,Rat.divInt 1 1) = .tuple #[bxv [48] [48] [49] [49],.int .i64 0] from by kernel_rfl] at h
 exact h
theorem zl5:Calls Tryz.prog 62 #[bxv [49] [49] [50] [50],bxv [51] [51] [45,49] [45,49]] w (PRet w (.tuple #[bxv [53] [53] [53] [53],.int .i64 0])):=by
 have h:=zgl (w:=w) (a:=[49]) (b:=[49]) (c:=[50]) (d:=[50]) (e:=[51]) (f:=[51]) (g:=[45,49]) (h:=[45,49]) (by decide) (by decide) (by decide) (by decide) (by decide) (by decide) (by decide) (by decide)
 rw [show onB mulRe mulIm [49] [49] [50] [50] [51] [51] [45,49] [45,49] = .tuple #[bxv [53] [53] [53] [53],.int .i64 0] from by kernel_rfl] at h
 exact h
theorem ex_conj:Calls Tryz.prog 64 #[bxv [49] [49] [50] [50]] w (PRet w (.tuple #[bxv [49] [49] [45,50] [45,50],.int .i64 0])):=by
 have h:=zgb (w:=w) (a:=[49]) (b:=[49]) (c:=[50]) (d:=[50]) (by decide) (by decide) (by decide) (by decide)
 rw [show conjV [49] [49] [50] [50] = .tuple #[bxv [49] [49] [45,50] [45,50],.int .i64 0] from by kernel_rfl] at h
 exact h
theorem ex_norm:Calls Tryz.prog 65 #[bxv [49] [49] [50] [50]] w (PRet w (.tuple #[spv [53] [53],.int .i64 0])):=by
 have h:=zmD (w:=w) (a:=[49]) (b:=[49]) (c:=[50]) (d:=[50]) (by decide) (by decide) (by decide) (by decide)
 rw [show normV [49] [49] [50] [50] = .tuple #[spv [53] [53],.int .i64 0] from by kernel_rfl] at h
 exact h
end
section
variable {w:World}
theorem zgB {v:Value} {q:Rat} {S E:Int} {A B C a:Nat} [h1:RatIs w v q] [d1:Sz q a] (ha:a <= 2 ^ 18) (hq:0 < q.num) (hbn:bl q.num.natAbs <= 2 ^ 26) (hbd:bl q.den <= 2 ^ 26) (hS:rSig (q.num.natAbs:Int) (q.den:Int)=S) (hE:rExp (q.num.natAbs:Int) (q.den:Int)=E)
  (hS0:0 < S) (hS1:S < 2 ^ 25) (hEb : -200 <= E/\E <= 100) (h2:∀ w:World,Sem.run Tryz.prog (convert 3 229 (.int .i64 S)) w = .ok (.float .f64 A) w) (h3:∀ w:World,Calls Tryz.prog 220 #[.float .f64 A,.int .i64 E] w (PRet w (.float .f64 B)))
  (h4:∀ w:World,Sem.run Tryz.prog (convert 229 87 (.float .f64 B)) w = .ok (.float .f32 C) w):
  Calls Tryz.prog 153 #[v] w (PRet w (.tuple #[.float .f32 C,.int .i64 0])):=by
 obtain ⟨s,rfl,_,n1,k1,HE1⟩:=h1.form
 have HA:=zc ha
 have hr:=fun (w:World) (v1 v2:Value) (i1:IntIs w v1 (q.num.natAbs:Int)) (i2:IntIs w v2 (q.den:Int))=>zlh (w:=w) (v1:=v1) (v2:=v2) (n:=(q.num.natAbs:Int)) (d:=(q.den:Int)) (a:=a) (d1:=⟨d1.num⟩) (by omega) (by have:=q.den_nz; omega) hbn hbd
 rw [hS,hE] at hr
 have HR:=zc hr; have H3:=zc h3
 have dS:Wd S 1:=zbC (by omega) (by omega)
 have hsg:sgnI q.num=1:=by unfold sgnI; rw [if_neg (by omega),if_neg (by omega)]
 have HSG:=zc hsg
 have hbl:bl S.natAbs <= 25:=bl_le (by omega)
 obtain ⟨bs,hbs⟩:∃ bs:Int,((bl S.natAbs:Nat):Int)=bs:=⟨_,rfl⟩
 have HBS:=zc hbs
 have hw:IntKind.i64.wrap (bs+E)=bs+E:=by rw [zx]; omega
 have f1:decide ((128:Int) < bs+E)=false:=by simp; omega
 have f2:(S != 0)=true:=by simp; omega
 have HS63:=zc (show S.natAbs < 2 ^ 63 by omega)
 clear ha hq hbn hbd hS hE hS0 hS1 hEb hr h3 hsg hbl hbs
 go_enter Tryz.func153,Tryz.ntmps153
 go_upto_region 1 with fail
 go_cut [4,5] (fun t4 t5 wx=>∃ (g4:Nat) (s4:IV),t4 = .pointer (some ⟨g4,0,none⟩)/\t5 = .int .i64 E/\Blk wx g4 98 #[.bool s4.b,s4.m.v]/\IntIs wx s4.v S/\Blk wx w.heap.size 100 #[.bool s.n.b,.slice s.n.m.A s.n.m.k s.n.m.c,.slice s.d.A s.d.k s.d.c]/\Nxt w wx)
 case first=>
  (refine Code.nameW ?_; intro W hW; go_region_held3 (fun w'=>ButO W [] w') (exact zab) (((first | (go_at_call 213; refine zf (zfI) ?_; rintro e w1 ⟨s1,rfl,_,_⟩) | (go_at_call 167; refine zf (zak) ?_; rintro e w1 ⟨s1,rfl,_,_⟩) | (go_at_call 218; refine zf (HR.out _ _ _ za za) ?_; rintro e3 w1 ⟨s1,rfl,_,_⟩)))))
  all_goals go_wp2_with fail
  all_goals go_meet
  all_goals exact ⟨_,_,rfl,rfl,za,za,za,zaa⟩
 case rest=>
  obtain ⟨g4,s4,rfl,rfl,_,_,_,_⟩:=hcut
  go_wp2_with ((first | (go_at_call 163; refine zf (zaW (x:=S) (by decide)) ?_; rw [HBS.out]; rintro e3 w1 ⟨rfl,_⟩) | (go_at_call 219; refine zf (zi9 (x:=S) HS63.out) ?_; rintro e3 w1 ⟨rfl,_⟩) | (go_at_call 220; refine zf (H3.out _) ?_; rintro e3 w1 ⟨rfl,_⟩) | (go_at_call 71; refine zf (zaT (q:=q)) ?_; rw [HSG.out]; rintro e3 w1 ⟨rfl,_⟩)))
  go_ret2
  exact ⟨rfl,zaa⟩
theorem zkE:Calls Tryz.prog 66 #[str [49,47,51]] w (PRet w (.tuple #[.float .f32 1051372203,.int .i64 0])):=by
 have hq:readQ [49,47,51]=Rat.divInt 1 3:=by decide +kernel
 have he:readE [49,47,51]=0:=by decide +kernel
 have hr:=fun w=>zdJ (w:=w) (l:=[49,47,51]) (by decide)
 rw [hq,he] at hr
 have HR:=zc hr
 have sq:Sz (Rat.divInt 1 3) 1:=zaZ (by decide +kernel) (by decide +kernel)
 have HF:=zc (fun (w:World) (v:Value) (i:RatIs w v (Rat.divInt 1 3))=>zgB (w:=w) (v:=v) (q:=Rat.divInt 1 3) (S:=11184811) (E := -25) (A:=4712266410284285952) (B:=4599676419600023552) (C:=1051372203) (by decide) (by decide +kernel) (by decide +kernel) (by decide +kernel) (by decide +kernel) (by decide +kernel) (by decide) (by decide) (by decide) (fun w=>by kernel_rfl) (fun w=>Ldexp_1) (fun w=>by kernel_rfl))
 clear hr hq he
 go_enter Tryz.func66,Tryz.ntmps66
 go_wp2_with fail
 refine zf (HR.out _) ?_
 rintro e w1 ⟨q1,rfl,_,_⟩
 go_wp2_with (go_at_call 153; refine zf (HF.out _ _ za) ?_; rintro e3 w1 ⟨rfl,_⟩)
 go_ret2
 exact ⟨rfl,zaa⟩
theorem zeN:Calls Tryz.prog 66 #[str [49,54,55,55,55,50,49,55]] w (PRet w (.tuple #[.float .f32 1266679808,.int .i64 0])):=by
 have hq:readQ [49,54,55,55,55,50,49,55]=Rat.divInt 16777217 1:=by decide +kernel
 have he:readE [49,54,55,55,55,50,49,55]=0:=by decide +kernel
 have hr:=fun w=>zdJ (w:=w) (l:=[49,54,55,55,55,50,49,55]) (by decide)
 rw [hq,he] at hr
 have HR:=zc hr
 have sq:Sz (Rat.divInt 16777217 1) 1:=zaZ (by decide +kernel) (by decide +kernel)
 have HF:=zc (fun (w:World) (v:Value) (i:RatIs w v (Rat.divInt 16777217 1))=>zgB (w:=w) (v:=v) (q:=Rat.divInt 16777217 1) (S:=8388608) (E:=1) (A:=4710765210229538816) (B:=4715268809856909312) (C:=1266679808) (by decide) (by decide +kernel) (by decide +kernel) (by decide +kernel) (by decide +kernel) (by decide +kernel) (by decide) (by decide) (by decide) (fun w=>by kernel_rfl) (fun w=>Ldexp_2) (fun w=>by kernel_rfl))
 clear hr hq he
 go_enter Tryz.func66,Tryz.ntmps66
 go_wp2_with fail
 refine zf (HR.out _) ?_
 rintro e w1 ⟨q1,rfl,_,_⟩
 go_wp2_with (go_at_call 153; refine zf (HF.out _ _ za) ?_; rintro e3 w1 ⟨rfl,_⟩)
 go_ret2
 exact ⟨rfl,zaa⟩
theorem znl:Calls Tryz.prog 155 #[.float .f32 1051372203] w (IRet w (11184811 * 2 ^ 124)):=by
 have f1:∀ w:World,Sem.run Tryz.prog (convert 87 229 (.float .f32 1051372203)) w = .ok (.float .f64 4599676419600023552) w:=fun w=>by kernel_rfl
 have f2:∀ w:World,Sem.run Tryz.prog (convert 229 3 (.float .f64 4712266410284285952)) w = .ok (.int .i64 11184811) w:=fun w=>by kernel_rfl
 have d1:Wd (11184811:Int) 1:=zbC (by decide) (by decide)
 go_enter Tryz.func155,Tryz.ntmps155
 go_wp2_with ((first | (go_at_call 223; refine zf Frexp_3 ?_; rintro e3 w1 ⟨rfl,_⟩) | (go_at_call 220; refine zf Ldexp_3 ?_; rintro e3 w1 ⟨rfl,_⟩) | (go_at_call 141; refine zf (zaD (n:=11184811) (by decide) (by decide)) ?_; rintro e3 w1 ⟨s1,rfl,_,_⟩) | (go_at_call 224; refine zf (zde (x:=11184811) (n:=124) (by decide) (by decide)) ?_; rintro e3 w1 ⟨s1,rfl,_,_⟩)))
 simp [bodyPost,results,Tryz.results155,go_sem]
 exact ⟨_,rfl,za,zaa⟩
theorem zl4:Calls Tryz.prog 154 #[.float .f32 1051372203] w (PRet w (.int .i64 0)):=by
 have f1:∀ w:World,Sem.run Tryz.prog (convert 87 229 (.float .f32 1051372203)) w = .ok (.float .f64 4599676419600023552) w:=fun w=>by kernel_rfl
 go_enter Tryz.func154,Tryz.ntmps154
 go_wp2_with ((first | (go_at_call 221; refine zf nan_3 ?_; rintro e3 w1 ⟨rfl,_⟩) | (go_at_call 222; refine zf inf_3 ?_; rintro e3 w1 ⟨rfl,_⟩)))
 go_ret
 exact ⟨rfl,zaa⟩
theorem znp [hg:Glo w]:Calls Tryz.prog 67 #[.float .f32 1051372203] w (PRet w (.tuple #[str [49,49,49,56,52,56,49,49,47,51,51,53,53,52,52,51,50],.int .i64 0])):=by
 have d0:Sz (((11184811 * 2 ^ 124:Int)):Rat) 5:=by
  constructor
  ·rw [Rat.num_intCast]; exact zaf (by unfold B64; decide +kernel)
  ·rw [Rat.den_intCast,za1]; decide
 have d2:Sz (Rat.divInt 1 (1 * 2 ^ 149)) 5:=by
  constructor
  ·exact zaf (by unfold B64; decide +kernel)
  ·exact zaf (by unfold B64; decide +kernel)
 have hq:((11184811 * 2 ^ 124:Int):Rat) * Rat.divInt 1 (1 * 2 ^ 149)=Rat.divInt 11184811 33554432:=by decide +kernel
 have d3:Sz (Rat.divInt 11184811 33554432) 1:=zaZ (by decide +kernel) (by decide +kernel)
 have hw:=fun (w:World) (v:Value) (i:RatIs w v (Rat.divInt 11184811 33554432)) (g:Glo w)=>zbj (w:=w) (v1:=v) (q:=Rat.divInt 11184811 33554432) (by decide)
 have HM:=zc (fun (w:World) (v1 v2:Value) (i1:RatIs w v1 ((11184811 * 2 ^ 124:Int):Rat)) (i2:RatIs w v2 (Rat.divInt 1 (1 * 2 ^ 149)))=>zcW (w:=w) (v1:=v1) (v2:=v2) (q:=((11184811 * 2 ^ 124:Int):Rat)) (r:=Rat.divInt 1 (1 * 2 ^ 149)) (by decide))
 rw [hq] at HM
 rw [show wTxt (Rat.divInt 11184811 33554432)=[49,49,49,56,52,56,49,49,47,51,51,53,53,52,52,51,50] by decide +kernel,show wE (Rat.divInt 11184811 33554432)=0 by decide +kernel] at hw
 have HW:=zc hw
 obtain ⟨N,hN⟩:∃ N:Int,11184811 * 2 ^ 124=N:=⟨_,rfl⟩
 have HST:=zc (fun w=>znl (w:=w))
 rw [hN] at HM HST
 clear hw hq d0 hN
 go_enter Tryz.func67,Tryz.ntmps67
 go_wp2_with ((first | (go_at_call 154; refine zf zl4 ?_; rintro e3 w1 ⟨rfl,_⟩) | (go_at_call 155; refine zf (HST.out _) ?_; rintro e3 w1 ⟨s1,rfl,_,_⟩) | (go_at_call 143; refine zf (zbr) ?_; rintro e3 w1 ⟨q1,rfl,_,_⟩) | (go_at_call 156; refine zf zh2 ?_; rintro e3 w1 ⟨q2,rfl,_,_⟩) | (go_at_call 122; refine zf (HM.out _ _ _ za za) ?_; rintro e3 w1 ⟨q3,rfl,_,_⟩) | (go_at_call 142; refine zf (HW.out _ _ za za) ?_; rintro e3 w1 ⟨rfl,_⟩)))
 go_ret2
 exact ⟨rfl,zaa⟩
end
theorem zcN {w:World} {a b:List UInt8}:Calls Tryz.prog 58 #[str a,str b] w (PRet w (spv a b)):=by
 go_enter Tryz.func58,Tryz.ntmps58
 go_wp2_with fail
 simp [bodyPost,results,Tryz.results58,go_sem]
 exact ⟨rfl,zaa⟩
theorem zhG {w:World} {a:List UInt8}:Calls Tryz.prog 84 #[str a] w (PRet w (spv a a)):=by
 go_enter Tryz.func84,Tryz.ntmps84
 go_wp2_with fail
 simp [bodyPost,results,Tryz.results84,go_sem]
 exact ⟨rfl,zaa⟩
theorem zc2 {w:World} {a b:List UInt8}:Calls Tryz.prog 63 #[str a,str b] w (PRet w (bxv a a b b)):=by
 go_enter Tryz.func63,Tryz.ntmps63
 go_wp2_with fail
 refine zf (zhG) ?_
 rintro e w1 ⟨rfl,_⟩
 go_wp2_with fail
 refine zf (zhG) ?_
 rintro e w1 ⟨rfl,_⟩
 go_wp2_with fail
 simp [bodyPost,results,Tryz.results63,go_sem]
 exact ⟨rfl,zaa⟩
theorem MRet.ok {w:World} {F:Nat -> Nat -> Rat} {r c:Nat} {e:Ending} {w':World} (h:MRet w 0 F r c e w') (hf:∀ i j,i < r -> j < c -> Fits (F i j)):∃ A,e = .returned (.tuple #[.slice A r r,.int .i64 0])/\MAt w' A ((List.range r).map (trow F c))/\Nxt w w':=by
 rcases h with ⟨h0,_⟩ | ⟨_,wq,hx,hz⟩
 ·exact absurd rfl h0
 ·obtain ⟨A, h1, h2, h3⟩ := hz.ok hf
  exact ⟨A,h1,h2,⟨hx.out.trans (h3.out.mono hx.out.size)⟩⟩
def e12:List (List (List UInt8)):=[[[49],[50]],[[51],[52]]]
def e01:List (List (List UInt8)):=[[[48],[49]],[[49],[48]]]
def e123:List (List (List UInt8)):=[[[49],[50],[51]],[[50],[52],[54]]]
def e511:List (List UInt8):=[[53],[49,49]]
theorem zdb {rows:List (List (List UInt8))} (h:(rows.all fun r=>r.all fun x=>decide (x.length < 10))=true):∀ r ∈ rows,∀ x ∈ r,x.length < 2 ^ 40:=fun r hr x hx=>by
 have h1:=List.all_eq_true.1 h r hr
 have h2:=List.all_eq_true.1 h1 x hx
 have:=of_decide_eq_true h2
 omega
theorem zjd {F:Nat -> Nat -> Rat} {r c:Nat} (h:((List.range r).all fun i=>(List.range c).all fun j=>decide (Fits (F i j)))=true):∀ i j,i < r -> j < c -> Fits (F i j):=fun i j hi hj=>
 of_decide_eq_true (List.all_eq_true.1 (List.all_eq_true.1 h i (List.mem_range.2 hi)) j (List.mem_range.2 hj))
theorem zjf {w:World} [hg:Glo w] {A B:Option Addr} (ha:MAt w A e12) (hb:MAt w B e01):
  Calls Tryz.prog 39 #[.slice A 2 2,.slice B 2 2] w (fun e w'=>∃ C,e = .returned (.tuple #[.slice C 2 2,.int .i64 0])/\MAt w' C [[[50],[49]],[[52],[51]]]/\Nxt w w'):=by
 refine zf (zkS ha rfl (by decide) (zdb (by decide)) hb rfl (by decide) (zdb (by decide))) ?_
 rintro e w' h
 rw [show mulE e12 e01=0 by decide +kernel] at h
 have h2:=h.ok (zjd (by decide +kernel))
 rw [show (List.range 2).map (trow (mulF e12 e01) (e01.headD []).length)=[[[50],[49]],[[52],[51]]] by decide +kernel] at h2
 exact h2
theorem znm {w:World} [hg:Glo w] {A B:Option Addr} (ha:MAt w A e12) (hb:SAt w B e511):
  Calls Tryz.prog 44 #[.slice A 2 2,.slice B 2 2] w (fun e w'=>∃ C,e = .returned (.tuple #[.slice C 2 2,.int .i64 0])/\SAt w' C [[49],[50]]/\Nxt w w'):=by
 refine zf (Solve_c (s:=600) ha rfl (by decide) (zdb (by decide)) hb rfl (by decide) (fun x hx=>by
  have:=zdb (rows:=[e511]) (by decide) e511 (by simp) x hx; exact this) (by decide) (fun _ _ _ _=>za0 _) (fun _ _=>za0 _) (fun _=>by decide)) ?_
 rintro e w' h
 rw [show solE e12 e511=0 by decide +kernel] at h
 have hf:=zjd (F:=solF e12 e511) (r:=1) (c:=(e12.headD []).length) (by decide +kernel)
 rcases h with ⟨h0,_⟩ | ⟨_,⟨i,j,hi,hj,hn⟩,_⟩ | ⟨_,_,⟨v,rfl,ht⟩,hx⟩
 ·exact absurd rfl h0
 ·exact absurd (hf i j hi hj) hn
 ·rw [show trow (solF e12 e511) (e12.headD []).length 0 = [[49], [50]] by decide +kernel] at ht
  have ht2:=ht
  obtain ⟨g,rfl,_⟩:=ht
  exact ⟨_,rfl,(TAt.sat (h:=g) ht2).2,hx⟩
theorem zl6 {w:World} [hg:Glo w] {A:Option Addr} (ha:MAt w A e123):
  Calls Tryz.prog 37 #[.slice A 2 2] w (fun e w'=>∃ C,e = .returned (.tuple #[.slice C 2 2,.int .i64 0])/\MAt w' C [[[49],[48],[45,49,47,51]],[[48],[49],[45,50,47,51]]]/\Nxt w w'):=by
 refine zf (znO (s:=600) ha rfl (by decide) (zdb (by decide)) (by decide) (fun _ _ _ _=>za0 _) (fun _=>by decide)) ?_
 rintro e w' h
 rw [show matE e123=0 by decide +kernel,show (zb6 e123).length=2 by decide +kernel] at h
 have h2:=h.ok (zjd (by decide +kernel))
 rw [show (List.range 2).map (trow (kerF e123) (e123.headD []).length)=[[[49],[48],[45,49,47,51]],[[48],[49],[45,50,47,51]]] by decide +kernel] at h2
 exact h2
theorem ex_rank {w:World} {A:Option Addr} (ha:MAt w A e123):
  Calls Tryz.prog 38 #[.slice A 2 2] w (PRet w (.tuple #[.int .i64 1,.int .i64 0])):=by
 refine zf (Rank_c (s:=600) ha rfl (by decide) (zdb (by decide)) (by decide) (fun _ _ _ _=>za0 _) (fun _=>by decide)) ?_
 rintro e w' ⟨rfl,hx⟩
 rw [show matE e123=0 by decide +kernel,show rankZ e123=1 by decide +kernel]
 exact ⟨rfl,hx⟩
theorem ziQ {w:World} {g:Nat} {t:TypeId} {l:List (List UInt8)} (h:Blk w g t (l.map str).toArray):SAt w (some ⟨g,0,none⟩) l:=fun i x hx=>⟨_,rfl,by
 have e:(⟨g,0,none⟩:Addr).add i=⟨g,i,none⟩:=by unfold Addr.add; split <;> simp_all
 rw [e]
 exact (Blk.cell (k:=h) (i:=i)).trans (by rw [List.getElem?_toArray,List.getElem?_map,hx]; rfl)⟩
theorem zlI {w:World} {g g1 g2 n1 n2:Nat} {t t1 t2:TypeId} {r1 r2:List (List UInt8)} (h:Blk w g t #[.slice (some ⟨g1,0,none⟩) n1 n1,.slice (some ⟨g2,0,none⟩) n2 n2]) (h1:Blk w g1 t1 (r1.map str).toArray) (h2:Blk w g2 t2 (r2.map str).toArray) (e1:r1.length=n1) (e2:r2.length=n2):MAt w (some ⟨g,0,none⟩) [r1,r2]:=fun i r hr=>by
 have ha:(⟨g,0,none⟩:Addr).add i=⟨g,i,none⟩:=by unfold Addr.add; split <;> simp_all
 match i,hr with
 | 0,hr=>
  obtain rfl:r1=r:=by simpa using hr
  exact ⟨_,_,_,_,rfl,by rw [ha]; exact (Blk.cell (k:=h) (i:=0)).trans rfl,e1,ziQ h1⟩
 | 1,hr=>
  obtain rfl:r2=r:=by simpa using hr
  exact ⟨_,_,_,_,rfl,by rw [ha]; exact (Blk.cell (k:=h) (i:=1)).trans rfl,e2,ziQ h2⟩
end Go.Proofs.YtombhkpniddceaaGreatDoor
