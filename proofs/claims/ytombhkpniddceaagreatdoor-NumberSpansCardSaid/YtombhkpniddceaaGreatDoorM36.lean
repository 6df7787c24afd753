import Derived.Test.YtombhkpniddceaaGreatDoorM35
import Derived.WideMake
import Derived.Test.YtombhkpniddceaaGreatDoorM33
set_option maxHeartbeats 12800000
set_option maxRecDepth 100000
set_option synthInstance.maxSize 20000
set_option linter.all false
namespace Go.Proofs.YtombhkpniddceaaGreatDoor
open Go.RowKit
section
open Go.Sort Go.Lib
class MapAt (w:World) (g:Nat) (es:outParam (Array MapEntry)) (c:outParam Nat):Prop where
 out:w.heap[g]?=some (.map es c)
def mapW (w:World) (g:Nat) (es:Array MapEntry) (c:Nat):World:={ w with heap:=w.heap.setIfInBounds g (.map es c) }
section
variable {w w' W X a:World} {g r n m i c c':Nat} {t:TypeId} {vs:Array Value} {es es':Array MapEntry} {x v:Value} {o:Obj} {rs:List Nat}
theorem MapAt.lt (h:MapAt w g es c):g < w.heap.size:=by
 rcases Nat.lt_or_ge g w.heap.size with hlt | hge
 ·exact hlt
 ·have h:=h.out; rw [Array.getElem?_eq_none hge] at h; cases h
instance MapAt.was [h:Was W X] [k:MapAt X g es c]:MapAt W g es c:=⟨by rw [h.out]; exact k.out⟩
instance MapAt.nxt [h:Nxt a w'] [k:MapAt a g es c]:MapAt w' g es c:=⟨(h.out.block g k.lt).trans k.out⟩
instance MapAt.drew [k:MapAt X g es c]:MapAt X.drew g es c:=⟨k.out⟩
instance MapAt.drewN [k:MapAt X g es c]:MapAt (X.drewN m) g es c:=⟨k.out⟩
instance MapAt.alloc [k:MapAt X g es c]:MapAt (X.alloc o) g es c:=⟨(((Below.refl X.heap.size X).alloc (zv _) o).block g k.lt).trans k.out⟩
instance MapAt.new [k:zbt X g]:MapAt (X.alloc (.map es c)) g es c:=⟨by rw [<- k.out]; exact heap_alloc_new X _⟩
theorem zcw (h:r ≠ g):(mapW w g es c).heap[r]?=w.heap[r]?:=by
 show (w.heap.setIfInBounds g _)[r]?=_
 rw [Array.getElem?_setIfInBounds_ne (by omega)]
instance MapAt.set_ [k:MapAt X g es c]:MapAt (mapW X g es' c') g es' c':=⟨by
 show (X.heap.setIfInBounds g _)[g]?=_
 rw [Array.getElem?_setIfInBounds_self_of_lt k.lt]⟩
instance zbt.map [k:zbt X n]:zbt (mapW X g es c) n:=⟨by show (X.heap.setIfInBounds g _).size=n; rw [Array.size_setIfInBounds]; exact k.out⟩
theorem ziE {B:Nat} (h:Below B w X) (hg:B <= g):Below B w (mapW X g es c):=
 ⟨h.os,h.tape,h.output,by show w.heap.size <= (X.heap.setIfInBounds g _).size; rw [Array.size_setIfInBounds]; exact h.size,fun b hb=>(zcw (by omega)).trans (h.block b hb)⟩
instance Ext.map [k:Ext w X] [h:Ge g w]:Ext w (mapW X g es c):=⟨ziE k.out h.out⟩
instance But.map [k:But W rs X] [h:Ge g W]:But W rs (mapW X g es c):=
 ⟨k.os,k.tape,k.output,by show W.heap.size <= (X.heap.setIfInBounds g _).size; rw [Array.size_setIfInBounds]; exact k.size,fun b hb hr=>(zcw (by have:=h.out; omega)).trans (k.block b hb hr)⟩
theorem znE [m:MapAt X g es c] {p:Addr} {y:Value} (h:X.cell? p=some y):(mapW X g es' c').cell? p=some y:=by
 have hne:p.block ≠ g:=by
  rintro rfl
  have h2:=m.out
  unfold World.cell? at h
  rw [h2] at h
  simp at h
 unfold World.cell? at h ⊢
 rw [zcw hne]; exact h
instance Blk.map [m:MapAt X r es c] [k:Blk X g t vs]:Blk (mapW X r es' c') g t vs:=⟨by
 rw [zcw (by rintro rfl; have h1:=m.out; rw [k.out] at h1; cases h1)]; exact k.out⟩
theorem NatIs.map {n:Nat} [m:MapAt X g es c] (h:NatIs X v n):NatIs (mapW X g es' c') v n:=by
 obtain ⟨B,d,rfl,h1,h2,h3⟩:=h
 refine ⟨B,d,rfl,h1,h2,h3.lt,fun j u hu=>?_⟩
 obtain ⟨ad,e,hl,hc⟩:=h3.at_ j u hu
 exact ⟨ad,e,by show _ < (X.heap.setIfInBounds g _).size; rw [Array.size_setIfInBounds]; exact hl,znE hc⟩
instance RatIs.map {q:Rat} [m:MapAt X g es c] [h:RatIs X v q]:RatIs (mapW X g es' c') v q:=by
 obtain ⟨s,e,hv,⟨y,e1,h1⟩,h2,h3⟩:=h
 exact ⟨s,e,hv,⟨y,e1,h1.map⟩,h2.map,h3⟩
instance Glo.map [k:Glo X] [h:NoG g]:Glo (mapW X g es c):=k.of_block (zcw (by have:=h.out; omega))
end
theorem ziK:Tryz.prog.underlying 256=some (.map 22 100):=by kernel_rfl
theorem ze7:Tryz.prog.underlying 22=some .string:=by kernel_rfl
@[go_sem] theorem make_cos (w:World):(Instr.makeMap 256 none).run Tryz.prog w = .ok (.map (some w.heap.size)) (w.alloc (.map #[] 0)):=rfl
theorem zcu {w:World} {g c:Nat} {es:Array MapEntry} {s:ByteArray} {v:Value} (h:MapAt w g es c) (hf:Instr.findNow .string (.string s) es.toList 0=some none):
  (Instr.mapUpdate 256 (.map (some g)) (.string s) v).run Tryz.prog w = .ok () (mapW w g (es.push ⟨.string s,v,c⟩) (c+1)):=by
 have hc:(Instr.checkKey false 10000 22 (.string s)).run Tryz.prog w = .ok () w:=MapKept.run_checkKey (k := .string s) ze7 (by simp [MapKept.IsKey]) false 9999
 simp [Instr.mapUpdate,run_underlying ziK,MapKept.run_getObj_map h.out,hc,MapKept.run_findKey ze7 hf,MapKept.run_setObj_map _ h.out,Result.andThen,mapW]
def lookR:Option (Nat × Value) -> Value
 | some (_,v) => .tuple #[v,.bool true]
 | none => .tuple #[zr.v,.bool false]
theorem zmV {w:World} {g c:Nat} {es:Array MapEntry} {s:ByteArray} {r:Option (Nat × Value)} (h:MapAt w g es c) (hf:Instr.findNow .string (.string s) es.toList 0=some r) (hne:es.isEmpty=false):
  (Instr.lookup 256 (.map (some g)) (.string s) true).run Tryz.prog w = .ok (lookR r) w:=by
 have hc:(Instr.checkKey es.isEmpty 10000 22 (.string s)).run Tryz.prog w = .ok () w:=MapKept.run_checkKey (k := .string s) ze7 (by simp [MapKept.IsKey]) _ 9999
 have hz:(zeroValue 100).run Tryz.prog w = .ok zr.v w:=by kernel_rfl
 cases r with
 | none=>simp [Instr.lookup,run_underlying ziK,MapKept.run_getObj_map h.out,hc,MapKept.run_findKey ze7 hf,hz,Result.andThen,lookR]
 | some p=>simp [Instr.lookup,run_underlying ziK,MapKept.run_getObj_map h.out,hc,MapKept.run_findKey ze7 hf,Result.andThen,lookR]
@[go_sem] theorem insert_0 {v:Value} {w:World} {g:Nat} [h:MapAt w g #[] 0]:(Instr.mapUpdate 256 (.map (some g)) (.string ⟨#[48]⟩) v).run Tryz.prog w = .ok () (mapW w g #[⟨.string ⟨#[48]⟩,v,0⟩] 1):=zcu h rfl
@[go_sem] theorem insert_1 {v0 v:Value} {w:World} {g:Nat} [h:MapAt w g #[⟨.string ⟨#[48]⟩,v0,0⟩] 1]:(Instr.mapUpdate 256 (.map (some g)) (.string ⟨#[49,47,54]⟩) v).run Tryz.prog w = .ok () (mapW w g #[⟨.string ⟨#[48]⟩,v0,0⟩,⟨.string ⟨#[49,47,54]⟩,v,1⟩] 2):=zcu h rfl
@[go_sem] theorem insert_2 {v0 v1 v:Value} {w:World} {g:Nat} [h:MapAt w g #[⟨.string ⟨#[48]⟩,v0,0⟩,⟨.string ⟨#[49,47,54]⟩,v1,1⟩] 2]:(Instr.mapUpdate 256 (.map (some g)) (.string ⟨#[49,47,52]⟩) v).run Tryz.prog w = .ok () (mapW w g #[⟨.string ⟨#[48]⟩,v0,0⟩,⟨.string ⟨#[49,47,54]⟩,v1,1⟩,⟨.string ⟨#[49,47,52]⟩,v,2⟩] 3):=zcu h rfl
@[go_sem] theorem insert_3 {v0 v1 v2 v:Value} {w:World} {g:Nat} [h:MapAt w g #[⟨.string ⟨#[48]⟩,v0,0⟩,⟨.string ⟨#[49,47,54]⟩,v1,1⟩,⟨.string ⟨#[49,47,52]⟩,v2,2⟩] 3]:(Instr.mapUpdate 256 (.map (some g)) (.string ⟨#[49,47,51]⟩) v).run Tryz.prog w = .ok () (mapW w g #[⟨.string ⟨#[48]⟩,v0,0⟩,⟨.string ⟨#[49,47,54]⟩,v1,1⟩,⟨.string ⟨#[49,47,52]⟩,v2,2⟩,⟨.string ⟨#[49,47,51]⟩,v,3⟩] 4):=zcu h rfl
@[go_sem] theorem insert_4 {v0 v1 v2 v3 v:Value} {w:World} {g:Nat} [h:MapAt w g #[⟨.string ⟨#[48]⟩,v0,0⟩,⟨.string ⟨#[49,47,54]⟩,v1,1⟩,⟨.string ⟨#[49,47,52]⟩,v2,2⟩,⟨.string ⟨#[49,47,51]⟩,v3,3⟩] 4]:(Instr.mapUpdate 256 (.map (some g)) (.string ⟨#[49,47,50]⟩) v).run Tryz.prog w = .ok () (mapW w g #[⟨.string ⟨#[48]⟩,v0,0⟩,⟨.string ⟨#[49,47,54]⟩,v1,1⟩,⟨.string ⟨#[49,47,52]⟩,v2,2⟩,⟨.string ⟨#[49,47,51]⟩,v3,3⟩,⟨.string ⟨#[49,47,50]⟩,v,4⟩] 5):=zcu h rfl
def zcs (l:List UInt8):Option Rat:=if l=[48] then some (Rat.divInt 1 1) else if l=[49,47,54] then some (Rat.divInt 1 2) else if l=[49,47,52] then some (Rat.divInt 0 1) else if l=[49,47,51] then some (Rat.divInt (-1) 2) else if l=[49,47,50] then some (Rat.divInt (-1) 1) else none
theorem zfd (l:List UInt8) (k:Array UInt8):((⟨l.toArray⟩:ByteArray) == ⟨k⟩)=decide (l=k.toList):=by
 have h:((⟨l.toArray⟩:ByteArray) == ⟨k⟩)=(l.toArray == k):=rfl
 rw [h,Bool.eq_iff_iff,beq_iff_eq,decide_eq_true_iff]
 constructor
 ·intro h; rw [<- h]
 ·rintro rfl; rfl
theorem zlM {v0 v1 v2 v3 v4:Value} {w:World} {g:Nat} {l:List UInt8} (h:MapAt w g #[⟨.string ⟨#[48]⟩,v0,0⟩,⟨.string ⟨#[49,47,54]⟩,v1,1⟩,⟨.string ⟨#[49,47,52]⟩,v2,2⟩,⟨.string ⟨#[49,47,51]⟩,v3,3⟩,⟨.string ⟨#[49,47,50]⟩,v4,4⟩] 5):
  ∃ s,(Instr.lookup 256 (.map (some g)) (str l) true).run Tryz.prog w = .ok (.tuple #[s,.bool (zcs l).isSome]) w /\
   ((zcs l=some (Rat.divInt 1 1)/\s=v0) ∨ (zcs l=some (Rat.divInt 1 2)/\s=v1) ∨ (zcs l=some (Rat.divInt 0 1)/\s=v2) ∨ (zcs l=some (Rat.divInt (-1) 2)/\s=v3) ∨ (zcs l=some (Rat.divInt (-1) 1)/\s=v4) ∨ (zcs l=none/\s=zr.v)):=by
 have e0:=zfd l #[48]
 have e1:=zfd l #[49,47,54]
 have e2:=zfd l #[49,47,52]
 have e3:=zfd l #[49,47,51]
 have e4:=zfd l #[49,47,50]
 have hf:Instr.findNow .string (str l) (#[⟨.string ⟨#[48]⟩,v0,0⟩,⟨.string ⟨#[49,47,54]⟩,v1,1⟩,⟨.string ⟨#[49,47,52]⟩,v2,2⟩,⟨.string ⟨#[49,47,51]⟩,v3,3⟩,⟨.string ⟨#[49,47,50]⟩,v4,4⟩]:Array MapEntry).toList 0=some (if l=[48] then some (0,v0) else if l=[49,47,54] then some (1,v1) else if l=[49,47,52] then some (2,v2) else if l=[49,47,51] then some (3,v3) else if l=[49,47,50] then some (4,v4) else none):=by
  simp only [Instr.findNow,Instr.sameNow,str,e0,e1,e2,e3,e4]
  by_cases h0:l=[48]
  ·subst h0; rfl
  ·by_cases h1 : l = [49, 47, 54]
   ·subst h1; rfl
   ·by_cases h2 : l = [49, 47, 52]
    ·subst h2; rfl
    ·by_cases h3 : l = [49, 47, 51]
     ·subst h3; rfl
     ·by_cases h4 : l = [49, 47, 50]
      ·subst h4; rfl
      ·simp [h0,h1,h2,h3,h4]
 have hr:=zmV (s:=⟨l.toArray⟩) h hf rfl
 unfold zcs
 by_cases h0:l=[48]
 ·rw [if_pos h0] at hr ⊢; exact ⟨_,hr,Or.inl ⟨rfl,rfl⟩⟩
 ·rw [if_neg h0] at hr ⊢
  by_cases h1:l=[49,47,54]
  ·rw [if_pos h1] at hr ⊢; exact ⟨_,hr,Or.inr (Or.inl ⟨rfl,rfl⟩)⟩
  ·rw [if_neg h1] at hr ⊢
   by_cases h2:l=[49,47,52]
   ·rw [if_pos h2] at hr ⊢; exact ⟨_,hr,Or.inr (Or.inr (Or.inl ⟨rfl,rfl⟩))⟩
   ·rw [if_neg h2] at hr ⊢
    by_cases h3:l=[49,47,51]
    ·rw [if_pos h3] at hr ⊢; exact ⟨_,hr,Or.inr (Or.inr (Or.inr (Or.inl ⟨rfl,rfl⟩)))⟩
    ·rw [if_neg h3] at hr ⊢
     by_cases h4:l=[49,47,50]
     ·rw [if_pos h4] at hr ⊢; exact ⟨_,hr,Or.inr (Or.inr (Or.inr (Or.inr (Or.inl ⟨rfl,rfl⟩))))⟩
     ·rw [if_neg h4] at hr ⊢; exact ⟨_,hr,Or.inr (Or.inr (Or.inr (Or.inr (Or.inr ⟨rfl,rfl⟩))))⟩
theorem zce {v:Value} {q:Rat} {a:Nat} {w:World} [h1:RatIs w v q] [d1:Sz q a] [hg:Glo w] (ha:a <= 2 ^ 20):
  Calls Tryz.prog 216 #[v] w (fun e w'=>∃ s:RV,e = .returned (.tuple #[s.v,.bool (zcs (wTxt q)).isSome])/\RatIs w' s.v ((zcs (wTxt q)).getD 0)/\Nxt w w'):=by
 obtain ⟨s,rfl,_,n1,k1,HE1⟩:=h1.form
 have HA:=zc ha
 obtain ⟨r,hr⟩:∃ r,zcs (wTxt q)=r:=⟨_,rfl⟩
 have HR:=Bx.mk hr
 rw [hr]
 clear ha hr
 go_enter Tryz.func216,Tryz.ntmps216
 go_wp2_with fail
 refine zf (zcq (by decide) (by decide) (by decide) (by decide)) ?_
 rintro e w1 ⟨s0,rfl,_,_⟩
 go_wp2_with fail
 refine zf (zcq (by decide) (by decide) (by decide) (by decide)) ?_
 rintro e w1 ⟨s1,rfl,_,_⟩
 go_wp2_with fail
 refine zf (zcq (by decide) (by decide) (by decide) (by decide)) ?_
 rintro e w1 ⟨s2,rfl,_,_⟩
 go_wp2_with fail
 refine zf (zcq (by decide) (by decide) (by decide) (by decide)) ?_
 rintro e w1 ⟨s3,rfl,_,_⟩
 go_wp2_with fail
 refine zf (zcq (by decide) (by decide) (by decide) (by decide)) ?_
 rintro e w1 ⟨s4,rfl,_,_⟩
 go_wp2_with fail
 refine zf (zbj (q:=q) HA.out) ?_
 rintro e w6 ⟨rfl,_⟩
 have hz:zcs (wTxt q) ≠ none -> wE q=0:=by
  intro h
  unfold wE wTxt at *
  split
  ·rfl
  ·rename_i hf
   rw [if_neg hf] at h
   exact absurd (by decide) h
 obtain ⟨sv,hlook,hcase⟩:=zlM (w:=w6) (g:=w.heap.size+1+1) (l:=wTxt q) za
 have r0:RatIs w6 s0.v (Rat.divInt 1 1):=za
 have r1:RatIs w6 s1.v (Rat.divInt 1 2):=za
 have r2:RatIs w6 s2.v (Rat.divInt 0 1):=za
 have r3:RatIs w6 s3.v (Rat.divInt (-1) 2):=za
 have r4:RatIs w6 s4.v (Rat.divInt (-1) 1):=za
 have b2:Blk w6 (w.heap.size+1) 100 #[.bool false,.slice none 0 0,.slice none 0 0]:=za
 have nx:Nxt w w6:=zaa
 rw [HR.out] at hlook hz hcase
 obtain ⟨sr,hs,hi⟩:∃ (sr:RV),sv=sr.v/\RatIs w6 sr.v (r.getD 0):=by
  rcases hcase with ⟨h,rfl⟩ | ⟨h,rfl⟩ | ⟨h,rfl⟩ | ⟨h,rfl⟩ | ⟨h,rfl⟩ | ⟨h,rfl⟩
  ·exact ⟨s0,rfl,by rw [h]; exact r0⟩
  ·exact ⟨s1,rfl,by rw [h]; exact r1⟩
  ·exact ⟨s2,rfl,by rw [h]; exact r2⟩
  ·exact ⟨s3,rfl,by rw [h]; exact r3⟩
  ·exact ⟨s4,rfl,by rw [h]; exact r4⟩
  ·exact ⟨zr,rfl,by rw [h]; exact zbf⟩
 clear hcase
 subst hs
 have HZ:=zc hz
 clear hz
 cases r with
 | none=>
  change (Instr.lookup _ _ _ _).run _ _ = .ok (.tuple #[sr.v,.bool false]) w6 at hlook
  go_wp2_with fail
  simp [bodyPost,results,Tryz.results216,go_sem]
  exact ⟨sr,(by repeat' (first | apply And.intro | rfl)),za,zaa⟩
 | some r=>
  change (Instr.lookup _ _ _ _).run _ _ = .ok (.tuple #[sr.v,.bool true]) w6 at hlook
  have hwe:(wE q == 0)=true:=by have:=HZ.out (by simp); simp [this]
  go_wp2_with fail
  simp [bodyPost,results,Tryz.results216,go_sem]
  exact ⟨sr,(by repeat' (first | apply And.intro | rfl)),za,zaa⟩
end
def zaX:List Int -> Nat -> List MapEntry
 | [],_=>[]
 | k :: l,i=>⟨.int .i64 k,.int .i64 (i:Int),i⟩ :: zaX l (i+1)
def zaN:List Int -> Int -> Nat -> Option Nat
 | [],_,_=>none
 | a :: l,k,i=>if k=a then some i else zaN l k (i+1)
def zim:Option Nat -> Option (Nat × Value)
 | some i=>some (i,.int .i64 (i:Int))
 | none=>none
theorem zdA (k:Int):∀ (l:List Int) (i:Nat),Instr.findNow (.int .i64) (.int .i64 k) (zaX l i) i=some (zim (zaN l k i))
 | [],_=>rfl
 | a :: l,i=>by
  unfold zaX zaN Instr.findNow
  simp only [Instr.sameNow,if_true]
  by_cases h:k=a
  ·subst h; simp [zim]
  ·have hb : (k == a) = false := by simpa using h
   rw [hb,if_neg h]
   exact zdA k l (i+1)
theorem zdn (k:Int):∀ (l:List Int) (i:Nat),zaX (l ++ [k]) i=zaX l i ++ [⟨.int .i64 k,.int .i64 ((i+l.length:Nat):Int),i+l.length⟩]
 | [],i=>rfl
 | a :: l,i=>by
  show _ :: zaX (l ++ [k]) (i+1)=_ :: (zaX l (i+1) ++ _)
  rw [zdn k l (i+1)]
  simp [Nat.add_assoc,Nat.add_comm 1]
theorem zdT (k:Int):∀ (l:List Int) (i:Nat),(∀ a ∈ l,k ≠ a) -> zaN l k i=none
 | [],_,_=>rfl
 | a :: l,i,h=>by
  unfold zaN
  rw [if_neg (h a (by simp))]
  exact zdT k l (i+1) (fun b hb=>h b (by simp [hb]))
theorem zdS {k:Int}:∀ {l:List Int} {i r:Nat},zaN l k i=some r -> i <= r/\l[r - i]?=some k
 | [],_,_,h=>by cases h
 | a :: l,i,r,h=>by
  unfold zaN at h
  by_cases e:k=a
  ·rw [if_pos e] at h
   obtain rfl:=zl h
   exact ⟨zv _,by rw [Nat.sub_self,e]; rfl⟩
  ·rw [if_neg e] at h
   obtain ⟨h1,h2⟩:=zdS h
   refine ⟨by omega,?_⟩
   rw [show r - i=(r - (i+1))+1 by omega]
   simpa using h2
theorem zgY:Tryz.prog.underlying 142=some (.map 3 3):=by kernel_rfl
theorem ze8:Tryz.prog.underlying 3=some (.int .i64):=by kernel_rfl
@[go_sem] theorem make_mapI (w:World):(Instr.makeMap 142 none).run Tryz.prog w = .ok (.map (some w.heap.size)) (w.alloc (.map #[] 0)):=rfl
theorem ziR {w:World} {g:Nat} {l:List Int} {k:Int} (h:MapAt w g (zaX l 0).toArray l.length) (hn:∀ a ∈ l,k ≠ a):
  (Instr.mapUpdate 142 (.map (some g)) (.int .i64 k) (.int .i64 (l.length:Int))).run Tryz.prog w = .ok () (mapW w g (zaX (l ++ [k]) 0).toArray (l ++ [k]).length):=by
 have hf:Instr.findNow (.int .i64) (.int .i64 k) (zaX l 0).toArray.toList 0=some none:=by
  show Instr.findNow (.int .i64) (.int .i64 k) (zaX l 0) 0=_
  rw [zdA,zdT k l 0 hn]; rfl
 have hc:(Instr.checkKey false 10000 3 (.int .i64 k)).run Tryz.prog w = .ok () w:=MapKept.run_checkKey (k := .int .i64 k) ze8 (by simp [MapKept.IsKey]) false 9999
 have e:(zaX (l ++ [k]) 0).toArray=(zaX l 0).toArray.push ⟨.int .i64 k,.int .i64 (l.length:Int),l.length⟩:=by
  rw [zdn]; simp
 rw [e,List.length_append,List.length_singleton]
 simp [Instr.mapUpdate,run_underlying zgY,MapKept.run_getObj_map h.out,hc,MapKept.run_findKey ze8 hf,MapKept.run_setObj_map _ h.out,Result.andThen,mapW]
def lookI:Option Nat -> Value
 | some i => .tuple #[.int .i64 (i:Int),.bool true]
 | none => .tuple #[.int .i64 0,.bool false]
theorem zhI {w:World} {g:Nat} {l:List Int} {k:Int} (h:MapAt w g (zaX l 0).toArray l.length):
  (Instr.lookup 142 (.map (some g)) (.int .i64 k) true).run Tryz.prog w = .ok (lookI (zaN l k 0)) w:=by
 have hf:Instr.findNow (.int .i64) (.int .i64 k) (zaX l 0).toArray.toList 0=some (zim (zaN l k 0)):=zdA k l 0
 have hc:∀ b,(Instr.checkKey b 10000 3 (.int .i64 k)).run Tryz.prog w = .ok () w:=fun b=>MapKept.run_checkKey (k := .int .i64 k) ze8 (by simp [MapKept.IsKey]) b 9999
 have hz:(zeroValue 3).run Tryz.prog w = .ok (.int .i64 0) w:=by kernel_rfl
 cases hr:zaN l k 0 with
 | none=>
  rw [hr] at hf
  simp [Instr.lookup,run_underlying zgY,MapKept.run_getObj_map h.out,hc,MapKept.run_findKey ze8 hf,hz,Result.andThen,lookI,zim]
 | some p=>
  rw [hr] at hf
  simp [Instr.lookup,run_underlying zgY,MapKept.run_getObj_map h.out,hc,MapKept.run_findKey ze8 hf,Result.andThen,lookI,zim]
theorem MapAt.but {W w':World} {g c:Nat} {es:Array MapEntry} {rs:List Nat} (h:MapAt W g es c) (k:But W rs w') (hr:g ∉ rs):MapAt w' g es c:=⟨(k.block g h.lt hr).trans h.out⟩
theorem IntIs.map_ {X:World} {g c c':Nat} {es es':Array MapEntry} {v:Value} {z:Int} (m:MapAt X g es c) (h:IntIs X v z):IntIs (mapW X g es' c') v z:=by
 obtain ⟨y,e,h1⟩:=h
 exact ⟨y,e,h1.map⟩
theorem ZAt.map_ {X:World} {g c c':Nat} {es es':Array MapEntry} {v:Value} {zs:List Int} (m:MapAt X g es c) (h:ZAt X v zs):ZAt (mapW X g es' c') v zs:=by
 obtain ⟨g1,us,hv,hb,hl,hq⟩:=h
 exact ⟨g1,us,hv,Blk.map,hl,fun i u z a b=>(hq i u z a b).map_ m⟩
theorem OwnI.map_ {X:World} {g c c':Nat} {es es':Array MapEntry} {v:Value} {l:List Int} (m:MapAt X g es c) (h:OwnI X v l):OwnI (mapW X g es' c') v l:=by
 rcases h with h | ⟨g1,tl,hv,hm,hb⟩
 ·exact .inl h
 ·exact .inr ⟨g1,tl,hv,hm,Blk.map⟩
theorem EchAt.map_ {X:World} {g c c':Nat} {es es':Array MapEntry} {v:Value} {s:ElS} (m:MapAt X g es c) (h:EchAt X v s):EchAt (mapW X g es' c') v s:=by
 obtain ⟨gr,us,A,cc,f,hv,hR,hl,hz,hf,ho⟩:=h
 exact ⟨gr,us,A,cc,f,hv,Blk.map,hl,fun i u zs a b=>(hz i u zs a b).map_ m,hf.map_ m,ho.map_ m⟩
theorem zeH {g:Nat} {t:TypeId}:∀ (cs:List Value) {w:World} {vs:Array Value} {o:Nat},Blk w g t vs -> ∃ us:Array Value,Blk (w.setCells g o cs) g t us/\(∀ i,i < o -> us[i]?=vs[i]?)
 | [],_,vs,_,h=>⟨vs,h,fun _ _=>rfl⟩
 | c :: cs,w,vs,o,h=>by
  have h1:Blk (w.setCell ⟨g,o,none⟩ c) g t (vs.setIfInBounds o c):=Blk.set_ (k:=h)
  obtain ⟨us,h2,h3⟩:=zeH cs (o:=o+1) h1
  refine ⟨us,h2,fun i hi=>?_⟩
  rw [h3 i (by omega),Array.getElem?_setIfInBounds_ne (by omega)]
theorem zeG {W:World} {g:Nat}:∀ (cs:List Value) {w:World} {o:Nat},But W [g] w -> But W [g] (w.setCells g o cs)
 | [],_,_,h=>h
 | c :: cs,w,o,h=>zeG cs (o:=o+1) (zct h (by simp))
theorem zd6 {w:World} {ops:Array Oper} {rest:List Oper} {o:Oper} {a:Act} {Q:Exit -> Act -> World -> Prop} (hgd:o.guard=none) (s:Operand)
  (ho:o.op = .call { callee := .builtin .clear,args:=#[s],argTypes:=#[91] }) (g i n c:Nat) (l:List Int) (hs:a.eval s = .slice (some ⟨g,i,none⟩) n c) (hb:Blk w g 3 (zae l)) (hl:i+n <= l.length) (hn:0 < n)
  (h:∀ w' (us:Array Value),Blk w' g 3 us -> (∀ j,j < i -> us[j]?=(zae l)[j]?) -> But w [g] w' -> wpList Tryz.prog ops Q rest (a.put o.dst (.tuple #[])) w'):wpList Tryz.prog ops Q (o :: rest) a w:=by
 refine wpList_plain hgd fun K hK=>?_
 have hr:=Lib.run_clear_slice (P:=Tryz.prog) w 91 3 o.type (.int .i64 0) Tryz.underlying91 (fun w=>by kernel_rfl) rfl rfl g i n c hn (fun j hj=>by
  have hx:l[i+j]?=some (l[i+j]'(by omega)):=zg _
  rw [zav hb hx]; rfl) (fun j hj=>Blk.frozen (k:=hb))
 obtain ⟨us,h1,h2⟩:=zeH (List.replicate n (Value.int .i64 0)) (o:=i) hb
 unfold Oper.wp execOp
 simp only [ho,resolve,invoke,builtin,Sem.run_bind,Sem.run_pure,Result.andThen_ok,List.map_toArray,List.map_cons,List.map_nil,hs,hr]
 exact hK _ _ (h _ us h1 h2 (zeG _ But.refl))
theorem zmq {W w w':World} {rs:List Nat} (h:But W rs w) (k:But w rs w'):But W rs w':=
 ⟨k.os.trans h.os,k.tape.trans h.tape,k.output.trans h.output,zo h.size k.size,fun b hb hr=>(k.block b (Nat.lt_of_lt_of_le hb h.size) hr).trans (h.block b hb hr)⟩
structure DInv (w wr:World) (g k i j:Nat) (l cur:List Int) (p:Int -> Bool):Prop where
 len:cur.length=k
 blk:Blk wr g 3 (zae cur)
 kept:cur.take i=(l.take j).filter fun x => !p x
 il:i < j
 rest:∀ t,j <= t -> cur[t]?=l[t]?
 but:But w [g] wr
theorem zfS {l:List Int} {p:Int -> Bool} (h:∀ (j:Nat) (y:Bool),(l.map p)[j]?=some y -> y=false):l.filter (fun x => !p x)=l:=by
 rw [List.filter_eq_self]
 intro a ha
 obtain ⟨i,hi⟩:=List.mem_iff_getElem?.1 ha
 rw [h i (p a) (by rw [List.getElem?_map,hi]; rfl)]; rfl
theorem zbK {l:List Int} {j:Nat} {x:Int} (h:l[j]?=some x):l.take (j+1)=l.take j ++ [x]:=by
 rw [List.take_add_one,h]; rfl
theorem DInv.skip {w wr w5:World} {g k i j:Nat} {l cur:List Int} {p:Int -> Bool} {x:Int} (h:DInv w wr g k i j l cur p) (hx:l[j]?=some x) (hp:p x=true) (hn:Nxt wr w5):DInv w w5 g k i (j+1) l cur p:=
 ⟨h.len,Blk.nxt (h:=hn) (k:=h.blk),by rw [zbK hx,List.filter_append,<- h.kept]; simp [hp],by have:=h.il; omega,fun t ht=>h.rest t (by omega),zc5 h.but hn⟩
theorem DInv.keep {w wr w5:World} {g k i j:Nat} {l cur:List Int} {p:Int -> Bool} {x:Int} (h:DInv w wr g k i j l cur p) (hj:j < k) (hx:l[j]?=some x) (hp:p x=false) (hn:Nxt wr w5):DInv w (w5.setCell ⟨g,i,none⟩ (.int .i64 x)) g k (i+1) (j+1) l (cur.set i x) p:=by
 have hi:=h.il
 have hil:i < cur.length:=by rw [h.len]; omega
 refine ⟨by rw [List.length_set]; exact h.len,zbs (Blk.nxt (h:=hn) (k:=h.blk)),?_,by omega,fun t ht=>by rw [List.getElem?_set_ne (by omega)]; exact h.rest t (by omega),zct (zc5 h.but hn) (by simp)⟩
 rw [zbK hx,List.filter_append,<- h.kept,zbK (x:=x) (by rw [List.getElem?_set_self hil])]
 rw [List.take_set_of_le (zv _)]
 simp [hp]
theorem zio {n:FuncId} {caps:Array Value} {g k:Nat} {l:List Int} {p:Int -> Bool} {w:World} (hrun:∀ (args:Array Value) (w:World),Sem.run Tryz.prog (callFunc n args) w = .ok (.enter n args) w)
  (hb:Blk w g 3 (zae l)) (hk:l.length=k) (hn:k < 2 ^ 30) (hcall:∀ x ∈ l,∀ wr,But w [g] wr -> Calls Tryz.prog n (#[.int .i64 x] ++ caps) wr (PRet wr (.bool (p x)))):
  Calls Tryz.prog 109 #[.slice (some ⟨g,0,none⟩) k k,.func (.func n) #[] caps] w (fun e w'=>∃ us:Array Value,e = .returned (.slice (some ⟨g,0,none⟩) (l.filter fun x => !p x).length k)/\Blk w' g 3 us/\(∀ (i:Nat) (x:Int),(l.filter fun x => !p x)[i]?=some x -> us[i]?=some (.int .i64 x))/\But w [g] w'):=by
 have HIX:=zc (znc (n:=n) (caps:=caps) (A:=some ⟨g,0,none⟩) (c:=k) (k:=k) (vs:=l.map fun x=>Value.int .i64 x) (bs:=l.map p) (w:=w) hrun (fun i v hv=>by
  obtain ⟨x,hx,rfl⟩:∃ x,l[i]?=some x/\Value.int .i64 x=v:=by simpa using hv
  refine ⟨_,rfl,?_⟩
  have e:(⟨g,0,none⟩:Addr).add i=⟨g,i,none⟩:=by unfold Addr.add; split <;> simp_all
  rw [e]; exact zav hb hx) (by rw [List.length_map]; exact hk) (by rw [List.length_map]; exact hk) (by omega) (fun i v x hv hx wr hq=>by
  obtain ⟨z,hz,rfl⟩:∃ x,l[i]?=some x/\Value.int .i64 x=v:=by simpa using hv
  have:x=p z:=by rw [List.getElem?_map,hz] at hx; simpa using hx.symm
  subst this
  exact hcall z (zk hz) wr (zc5 But.refl hq)))
 have HSP:=zc (zdy (l.map p))
 obtain ⟨L,hL⟩:∃ L,(l.filter fun x => !p x)=L:=⟨_,rfl⟩
 have HL:=zc hL; have HB:=zc hb; have HK:=zc hk; have HN:=zc hn; have HC:=zc hcall
 rw [hL]
 clear hb hk hn hcall hL
 rcases HSP.out with ⟨h1,h2⟩ | ⟨i0,h1,h2,h3⟩
 ·have hl : L = l := by rw [<- HL.out]; exact zfS h2
  have hlk:L.length=k:=by rw [hl,HK.out]
  have HLL:=zc hl
  rw [hlk]
  rw [h1] at HIX
  clear h1 h2 hl hlk
  go_enter Tryz.func109,Tryz.ntmps109
  go_wp2_with fail
  refine zf HIX.out ?_
  rintro e w5 ⟨rfl,hx5⟩
  have HX:=zc hx5
  clear hx5
  go_wp2_with fail
  go_ret
  exact ⟨_,rfl,Blk.nxt (h:=HX.out) (k:=HB.out),fun i x hx=>by rw [HLL.out] at hx; simp [zae,hx],zc5 But.refl HX.out⟩
 ·rw [h1] at HIX
  have hi0:i0 < k:=by
   have:=(zh.1 h2).1
   rw [List.length_map,HK.out] at this; exact this
  obtain ⟨x0,hx0⟩:∃ x,l[i0]?=some x:=⟨l[i0]'(by rw [HK.out]; exact hi0),zg _⟩
  have hp0:p x0=true:=by rw [List.getElem?_map,hx0] at h2; simpa using h2
  have hD0:DInv w w g k i0 (i0+1) l l p:=⟨HK.out,HB.out,by
   rw [zbK hx0,List.filter_append]
   rw [zfS (l:=l.take i0) (fun j y hy=>by
    rw [List.getElem?_map,List.getElem?_take] at hy
    by_cases hj:j < i0
    ·rw [if_pos hj] at hy
     exact h3 j y hj (by rw [List.getElem?_map]; exact hy)
    ·rw [if_neg hj] at hy; cases hy)]
   simp [hp0],by omega,fun _ _=>rfl,But.refl⟩
  have hne:((i0:Int) == -1)=false:=beq_eq_false_iff_ne.2 (by omega)
  have hne':¬ (i0:Int) = -1:=by omega
  have hw1:IntKind.i64.wrap ((i0:Int)+1)=((i0+1:Nat):Int):=by have:=HN.out; rw [zx]; omega
  have HD0:=zc hD0; have HI0:=zc hi0
  clear h1 h2 h3 hi0 hx0 hp0 hD0
  go_enter Tryz.func109,Tryz.ntmps109
  go_wp2_with fail
  refine zf HIX.out ?_
  rintro e w5 ⟨rfl,hx5⟩
  have HX:=zc hx5
  clear hx5
  go_wp2_with fail
  go_loopg [5,6] (k - (i0+1)) (fun gk s5 s6 wr=>∃ (i j:Nat) (cur:List Int),s5 = .int .i64 (i:Int)/\s6 = .int .i64 (j:Int)/\j <= k/\gk=k - j/\DInv w wr g k i j l cur p)
  case atStart=>exact ⟨i0,i0+1,l,rfl,rfl,by have:=HI0.out; omega,rfl,⟨HD0.out.len,Blk.nxt (h:=HX.out) (k:=HD0.out.blk),HD0.out.kept,HD0.out.il,HD0.out.rest,zc5 HD0.out.but HX.out⟩⟩
  case round=>
   obtain ⟨i,j,cur,rfl,rfl,hjk,rfl,hD⟩:=hrel
   have HD:=zc hD
   clear hD
   by_cases hj:j < k
   ·have hlt : decide ((j : Int) < (k : Int)) = true := by simp; omega
    have hlt':(j:Int) < (k:Int):=by omega
    have hik:(i:Int) < (k:Int):=by have:=HD.out.il; omega
    have hadd:IntKind.i64.wrap ((j:Int)+1)=((j+1:Nat):Int):=by have:=HN.out; rw [zx]; omega
    have hadi:IntKind.i64.wrap ((i:Int)+1)=((i+1:Nat):Int):=by have:=HN.out; rw [zx]; omega
    obtain ⟨x,hx⟩:∃ x,l[j]?=some x:=⟨l[j]'(by rw [HK.out]; exact hj),zg _⟩
    have hcx:wr.cell? ⟨g,j,none⟩=some (.int .i64 x):=zav HD.out.blk (by rw [HD.out.rest j (zv _)]; exact hx)
    have HCA:=zc (HC.out x (zk hx) wr HD.out.but)
    have HXX:=zc hx; have HJ:=zc hj
    obtain ⟨y,hy⟩:∃ y,cur[i]?=some y:=⟨cur[i]'(by rw [HD.out.len]; omega),zg _⟩
    have HY:=zc hy
    clear hx hjk hj hy
    cases hp:p x
    ·rw [hp] at HCA
     go_wp2_with fail
     refine zf HCA.out ?_
     rintro e w6 ⟨rfl,hx6⟩
     have hb6:Blk w6 g 3 (zae cur):=Blk.nxt (h:=hx6) (k:=HD.out.blk)
     have hc6:=zav hb6 HY.out
     have hf6:w6.frozen? ⟨g,i,none⟩=false:=Blk.frozen (k:=hb6)
     have HST:=zc (HD.out.keep HJ.out HXX.out hp hx6)
     clear hx6 hb6 hcx
     go_wp2_with fail
     go_roundg (k - (j+1))
     case measure=>have:=HJ.out; omega
     case rel=>exact ⟨i+1,j+1,_,rfl,rfl,HJ.out,rfl,HST.out⟩
    ·rw [hp] at HCA
     go_wp2_with fail
     refine zf HCA.out ?_
     rintro e w6 ⟨rfl,hx6⟩
     have HST:=zc (HD.out.skip HXX.out hp hx6)
     clear hx6 hcx
     go_wp2_with fail
     go_roundg (k - (j+1))
     case measure=>have:=HJ.out; omega
     case rel=>exact ⟨i,j+1,cur,rfl,rfl,HJ.out,rfl,HST.out⟩
   ·have hlt : decide ((j : Int) < (k : Int)) = false := decide_eq_false (by omega)
    have hlt':¬ (j:Int) < (k:Int):=by omega
    obtain rfl:j=k:=by omega
    have hi:=HD.out.il
    have hik:(i:Int) < (j:Int):=by omega
    have hik2:(i:Int) <= (j:Int):=by omega
    have hlf:L=cur.take i:=by rw [<- HL.out,HD.out.kept,List.take_of_length_le (by rw [HK.out]; exact zv _)]
    have hlen:L.length=i:=by rw [hlf,List.length_take,HD.out.len]; omega
    have HLF:=zc hlf; have HLEN:=zc hlen; have HI:=zc hi
    clear hlf hlen hjk hj hi
    go_wp2_with ((refine zd6 rfl (.tmp 38) rfl g i (j - i) (j - i) cur rfl HD.out.blk (by have:=HI.out; have:=HD.out.len; omega) (by have:=HI.out; omega) ?_; intro w7 us hb7 hu7 hbut7))
    go_ret
    refine ⟨by rw [HLEN.out]; rfl,us,hb7,fun t x hx=>?_,zmq HD.out.but hbut7⟩
    have ht:t < i:=by rw [<- HLEN.out]; exact (zh.1 hx).1
    rw [hu7 t ht]
    rw [HLF.out,List.getElem?_take,if_pos ht] at hx
    simp [zae,hx]
theorem keyIn_c {w:World} {g10 gm:Nat} {K:List Int} {j:Int} (hb:Blk w g10 142 #[.map (some gm)]) (hm:MapAt w gm (zaX K 0).toArray K.length):
  Calls Tryz.prog 111 #[.int .i64 j,.pointer (some ⟨g10,0,none⟩)] w (PRet w (.bool (zaN K j 0).isSome)):=by
 have hl:=zhI (k:=j) hm
 cases hf:zaN K j 0 with
 | none=>
  rw [hf] at hl
  unfold lookI at hl
  clear hf hm
  go_enter Tryz.func111,Tryz.ntmps111
  go_wp2_with fail
  go_ret
  exact ⟨rfl,zaa⟩
 | some r=>
  rw [hf] at hl
  unfold lookI at hl
  clear hf hm
  go_enter Tryz.func111,Tryz.ntmps111
  go_wp2_with fail
  go_ret
  exact ⟨rfl,zaa⟩
def kerX (S:ElS) (K Fr:List Int) (m i j:Nat):Rat:=
 match zaN K (j:Int) 0 with
 | some r => -(Rat.divInt ((S.rows.getD r []).getD (m - 1 - (Fr.getD i 0).toNat) 0) S.fac)
 | none=>if (j:Int)=Fr.getD i 0 then 1 else 0
theorem ziV:Rat.divInt 1 1=1:=by decide +kernel
theorem kerAt_c {w:World} {g10 gm g9 g5 g13 gf i j m a k:Nat} {K Fr:List Int} {S:ElS} {x0 x1 x2 x3:Value} {us:Array Value} (hb:Blk w g10 142 #[.map (some gm)]) (hm:MapAt w gm (zaX K 0).toArray K.length)
  (h9:Blk w g9 140 #[x0,x1,x2,x3]) (hE:EchAt w (.agg #[x0,x1,x2,x3]) S) (h5:Blk w g5 3 #[.int .i64 (m:Int)]) (h13:Blk w g13 91 #[.slice (some ⟨gf,0,none⟩) Fr.length k]) (hf:Blk w gf 3 us)
  (hfr:∀ (i:Nat) (x:Int),Fr[i]?=some x -> us[i]?=some (.int .i64 x)) (hi:i < Fr.length) (hx:∀ x ∈ Fr,0 <= x/\x < (m:Int)) (hm30:m < 2 ^ 30)
  (hr:∀ r,zaN K (j:Int) 0=some r -> ∃ row,S.rows[r]?=some row/\row.length=m/\∀ z ∈ row,Wd z a) (hw:Wd S.fac a) (ha:a <= 2 ^ 30):
  Calls Tryz.prog 113 #[.int .i64 (i:Int),.int .i64 (j:Int),.pointer (some ⟨g10,0,none⟩),.pointer (some ⟨g9,0,none⟩),.pointer (some ⟨g5,0,none⟩),.pointer (some ⟨g13,0,none⟩)] w (RRet w (kerX S K Fr m i j)):=by
 obtain ⟨x,hxi⟩:∃ x,Fr[i]?=some x:=⟨Fr[i],zg hi⟩
 obtain ⟨hx1,hx2⟩:=hx x (zk hxi)
 obtain ⟨y,rfl⟩:∃ y:Nat,x=(y:Int):=⟨x.toNat,by omega⟩
 have hus:=hfr i _ hxi
 have hi':(i:Int) < (Fr.length:Int):=by omega
 have hcx:w.cell? ⟨gf,i,none⟩=some (.int .i64 (y:Int)):=(Blk.cell (k:=hf)).trans hus
 have hgd:Fr.getD i 0=(y:Int):=za3 hxi
 obtain ⟨fl,hfl⟩:∃ fl,Fr.length=fl:=⟨_,rfl⟩
 rw [hfl] at h13 hi'
 have hl:=zhI (k:=(j:Int)) (w:=w.alloc (.cells #[.bool false,.slice none 0 0,.slice none 0 0] 100)) (MapAt.alloc (k:=hm))
 cases hfd:zaN K (j:Int) 0 with
 | some r=>
  obtain ⟨row,hrow,hrl,hrz⟩:=hr r hfd
  obtain ⟨q,hq⟩:∃ q,q+y+1=m:=⟨m - 1 - y,by omega⟩
  obtain ⟨p,hp⟩:∃ p,q+y=p:=⟨_,rfl⟩
  have hw1:IntKind.i64.wrap ((m:Int) - 1)=(p:Int):=by rw [zx]; omega
  have hw2:IntKind.i64.wrap ((p:Int) - (y:Int))=(q:Int):=by rw [zx]; omega
  obtain ⟨z,hz⟩:∃ z,row[q]?=some z:=⟨row[q]'(by omega),zg _⟩
  have HFA:=zc (fun (wq:World) (hq:Nxt w wq)=>zeC (a:=a) (hE.nxt hq) hrow hz (hrz z (zk hz)) hw ha)
  have dz:=hrz z (zk hz)
  have dq:Sz (Rat.divInt z S.fac) (a+a+1):=za
  have HKX:=zc (show kerX S K Fr m i j = -(Rat.divInt z S.fac) by
   unfold kerX
   rw [hfd]
   show -(Rat.divInt ((S.rows.getD r []).getD (m - 1 - (Fr.getD i 0).toNat) 0) S.fac)=_
   rw [hgd,za3 hrow,show m - 1 - ((y:Int)).toNat=q by simp; omega,za3 hz])
  rw [hfd] at hl
  unfold lookI at hl
  rw [HKX.out]
  generalize Rat.divInt z S.fac=Q at *
  clear hp hq hm hE hfr hi hx hr hw hxi hx1 hx2 hgd hfl hfd hrow hrl hrz hz dz hm30 ha
  go_enter Tryz.func113,Tryz.ntmps113
  go_wp2_with fail
  (refine Code.nameW ?_; intro W hW; go_region_held3 (fun w'=>ButO W [w.heap.size] w') (exact zab) ((first | (go_at_call 114; refine zf (HFA.out _ zaa) ?_; rintro e w5 ⟨s5,rfl,_,_⟩) | (go_at_call 115; refine zf (zfm) ?_; rintro e w1 ⟨q1,rfl,_,_⟩))))
  all_goals go_wp2_with fail
  all_goals (simp [bodyPost,results,Tryz.results113,go_sem])
  all_goals exact ⟨_,rfl,za,zaa⟩
 | none=>
  rw [hfd] at hl
  unfold lookI at hl
  by_cases hjy:(j:Int)=(y:Int)
  ·have HKX:=zc (show kerX S K Fr m i j=Rat.divInt 1 1 by
    unfold kerX
    rw [hfd]
    show (if (j:Int)=Fr.getD i 0 then (1:Rat) else 0)=_
    rw [hgd,if_pos hjy,ziV])
   have hjb:((j:Int) == (y:Int))=true:=by simpa using hjy
   rw [HKX.out]
   clear hjy hm hE hfr hi hx hr hw hxi hx1 hx2 hgd hfl hfd hm30 ha
   go_enter Tryz.func113,Tryz.ntmps113
   go_wp2_with ((go_at_call 116; refine zf (zcq (x:=1) (y:=1) (by decide) (by decide) (by decide) (by decide)) ?_; rintro e w5 ⟨s5,rfl,_,_⟩))
   simp [bodyPost,results,Tryz.results113,go_sem]
   exact ⟨s5,rfl,za,zaa⟩
  ·have HKX:=zc (show kerX S K Fr m i j=0 by
    unfold kerX
    rw [hfd]
    show (if (j:Int)=Fr.getD i 0 then (1:Rat) else 0)=_
    rw [hgd,if_neg hjy])
   have hjb:((j:Int) == (y:Int))=false:=by simpa using hjy
   rw [HKX.out]
   clear hm hE hfr hi hx hr hw hxi hx1 hx2 hgd hfl hfd hm30 ha
   go_enter Tryz.func113,Tryz.ntmps113
   go_wp2_with fail
   simp [bodyPost,results,Tryz.results113,go_sem]
   exact ⟨zr,rfl,zbf,zaa⟩
end Go.Proofs.YtombhkpniddceaaGreatDoor
