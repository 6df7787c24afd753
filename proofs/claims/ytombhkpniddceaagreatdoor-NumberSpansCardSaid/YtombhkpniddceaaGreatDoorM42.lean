import Derived.Test.YtombhkpniddceaaGreatDoorM35
set_option maxHeartbeats 6400000
set_option maxRecDepth 100000
set_option synthInstance.maxSize 20000
set_option linter.all false
namespace Go.Proofs.YtombhkpniddceaaGreatDoor
open Go.Lib Go.RowKit Go.Sort
instance {y0 y1 y2 y3 y4 y5 y6 y7 y8 y9 y10 y11 x:Value}:SetAt #[y0,y1,y2,y3,y4,y5,y6,y7,y8,y9,y10,y11] 0 x #[x,y1,y2,y3,y4,y5,y6,y7,y8,y9,y10,y11]:=⟨rfl⟩
instance {y0 y1 y2 y3 y4 y5 y6 y7 y8 y9 y10 y11 x:Value}:SetAt #[y0,y1,y2,y3,y4,y5,y6,y7,y8,y9,y10,y11] 1 x #[y0,x,y2,y3,y4,y5,y6,y7,y8,y9,y10,y11]:=⟨rfl⟩
instance {y0 y1 y2 y3 y4 y5 y6 y7 y8 y9 y10 y11 x:Value}:SetAt #[y0,y1,y2,y3,y4,y5,y6,y7,y8,y9,y10,y11] 2 x #[y0,y1,x,y3,y4,y5,y6,y7,y8,y9,y10,y11]:=⟨rfl⟩
instance {y0 y1 y2 y3 y4 y5 y6 y7 y8 y9 y10 y11 x:Value}:SetAt #[y0,y1,y2,y3,y4,y5,y6,y7,y8,y9,y10,y11] 3 x #[y0,y1,y2,x,y4,y5,y6,y7,y8,y9,y10,y11]:=⟨rfl⟩
instance {y0 y1 y2 y3 y4 y5 y6 y7 y8 y9 y10 y11 x:Value}:SetAt #[y0,y1,y2,y3,y4,y5,y6,y7,y8,y9,y10,y11] 4 x #[y0,y1,y2,y3,x,y5,y6,y7,y8,y9,y10,y11]:=⟨rfl⟩
instance {y0 y1 y2 y3 y4 y5 y6 y7 y8 y9 y10 y11 x:Value}:SetAt #[y0,y1,y2,y3,y4,y5,y6,y7,y8,y9,y10,y11] 5 x #[y0,y1,y2,y3,y4,x,y6,y7,y8,y9,y10,y11]:=⟨rfl⟩
instance {y0 y1 y2 y3 y4 y5 y6 y7 y8 y9 y10 y11 x:Value}:SetAt #[y0,y1,y2,y3,y4,y5,y6,y7,y8,y9,y10,y11] 6 x #[y0,y1,y2,y3,y4,y5,x,y7,y8,y9,y10,y11]:=⟨rfl⟩
instance {y0 y1 y2 y3 y4 y5 y6 y7 y8 y9 y10 y11 x:Value}:SetAt #[y0,y1,y2,y3,y4,y5,y6,y7,y8,y9,y10,y11] 7 x #[y0,y1,y2,y3,y4,y5,y6,x,y8,y9,y10,y11]:=⟨rfl⟩
instance {y0 y1 y2 y3 y4 y5 y6 y7 y8 y9 y10 y11 x:Value}:SetAt #[y0,y1,y2,y3,y4,y5,y6,y7,y8,y9,y10,y11] 8 x #[y0,y1,y2,y3,y4,y5,y6,y7,x,y9,y10,y11]:=⟨rfl⟩
instance {y0 y1 y2 y3 y4 y5 y6 y7 y8 y9 y10 y11 x:Value}:SetAt #[y0,y1,y2,y3,y4,y5,y6,y7,y8,y9,y10,y11] 9 x #[y0,y1,y2,y3,y4,y5,y6,y7,y8,x,y10,y11]:=⟨rfl⟩
instance {y0 y1 y2 y3 y4 y5 y6 y7 y8 y9 y10 y11 x:Value}:SetAt #[y0,y1,y2,y3,y4,y5,y6,y7,y8,y9,y10,y11] 10 x #[y0,y1,y2,y3,y4,y5,y6,y7,y8,y9,x,y11]:=⟨rfl⟩
instance {y0 y1 y2 y3 y4 y5 y6 y7 y8 y9 y10 y11 x:Value}:SetAt #[y0,y1,y2,y3,y4,y5,y6,y7,y8,y9,y10,y11] 11 x #[y0,y1,y2,y3,y4,y5,y6,y7,y8,y9,y10,x]:=⟨rfl⟩
instance {y0 y1 y2 y3 y4 y5 y6 y7 y8 y9 y10 y11:Value} [h:NW y0]:zaj #[y0,y1,y2,y3,y4,y5,y6,y7,y8,y9,y10,y11] 0:=⟨fun u e=>h.out u (zl e)⟩
instance {y0 y1 y2 y3 y4 y5 y6 y7 y8 y9 y10 y11:Value} [h:NW y1]:zaj #[y0,y1,y2,y3,y4,y5,y6,y7,y8,y9,y10,y11] 1:=⟨fun u e=>h.out u (zl e)⟩
instance {y0 y1 y2 y3 y4 y5 y6 y7 y8 y9 y10 y11:Value} [h:NW y2]:zaj #[y0,y1,y2,y3,y4,y5,y6,y7,y8,y9,y10,y11] 2:=⟨fun u e=>h.out u (zl e)⟩
instance {y0 y1 y2 y3 y4 y5 y6 y7 y8 y9 y10 y11:Value} [h:NW y3]:zaj #[y0,y1,y2,y3,y4,y5,y6,y7,y8,y9,y10,y11] 3:=⟨fun u e=>h.out u (zl e)⟩
instance {y0 y1 y2 y3 y4 y5 y6 y7 y8 y9 y10 y11:Value} [h:NW y4]:zaj #[y0,y1,y2,y3,y4,y5,y6,y7,y8,y9,y10,y11] 4:=⟨fun u e=>h.out u (zl e)⟩
instance {y0 y1 y2 y3 y4 y5 y6 y7 y8 y9 y10 y11:Value} [h:NW y5]:zaj #[y0,y1,y2,y3,y4,y5,y6,y7,y8,y9,y10,y11] 5:=⟨fun u e=>h.out u (zl e)⟩
instance {y0 y1 y2 y3 y4 y5 y6 y7 y8 y9 y10 y11:Value} [h:NW y6]:zaj #[y0,y1,y2,y3,y4,y5,y6,y7,y8,y9,y10,y11] 6:=⟨fun u e=>h.out u (zl e)⟩
instance {y0 y1 y2 y3 y4 y5 y6 y7 y8 y9 y10 y11:Value} [h:NW y7]:zaj #[y0,y1,y2,y3,y4,y5,y6,y7,y8,y9,y10,y11] 7:=⟨fun u e=>h.out u (zl e)⟩
instance {y0 y1 y2 y3 y4 y5 y6 y7 y8 y9 y10 y11:Value} [h:NW y8]:zaj #[y0,y1,y2,y3,y4,y5,y6,y7,y8,y9,y10,y11] 8:=⟨fun u e=>h.out u (zl e)⟩
instance {y0 y1 y2 y3 y4 y5 y6 y7 y8 y9 y10 y11:Value} [h:NW y9]:zaj #[y0,y1,y2,y3,y4,y5,y6,y7,y8,y9,y10,y11] 9:=⟨fun u e=>h.out u (zl e)⟩
instance {y0 y1 y2 y3 y4 y5 y6 y7 y8 y9 y10 y11:Value} [h:NW y10]:zaj #[y0,y1,y2,y3,y4,y5,y6,y7,y8,y9,y10,y11] 10:=⟨fun u e=>h.out u (zl e)⟩
instance {y0 y1 y2 y3 y4 y5 y6 y7 y8 y9 y10 y11:Value} [h:NW y11]:zaj #[y0,y1,y2,y3,y4,y5,y6,y7,y8,y9,y10,y11] 11:=⟨fun u e=>h.out u (zl e)⟩
@[go_sem] theorem get_12_0 {y0 y1 y2 y3 y4 y5 y6 y7 y8 y9 y10 y11:Value}:#[y0,y1,y2,y3,y4,y5,y6,y7,y8,y9,y10,y11][0]?=some y0:=rfl
@[go_sem] theorem get_12_1 {y0 y1 y2 y3 y4 y5 y6 y7 y8 y9 y10 y11:Value}:#[y0,y1,y2,y3,y4,y5,y6,y7,y8,y9,y10,y11][1]?=some y1:=rfl
@[go_sem] theorem get_12_2 {y0 y1 y2 y3 y4 y5 y6 y7 y8 y9 y10 y11:Value}:#[y0,y1,y2,y3,y4,y5,y6,y7,y8,y9,y10,y11][2]?=some y2:=rfl
@[go_sem] theorem get_12_3 {y0 y1 y2 y3 y4 y5 y6 y7 y8 y9 y10 y11:Value}:#[y0,y1,y2,y3,y4,y5,y6,y7,y8,y9,y10,y11][3]?=some y3:=rfl
@[go_sem] theorem get_12_4 {y0 y1 y2 y3 y4 y5 y6 y7 y8 y9 y10 y11:Value}:#[y0,y1,y2,y3,y4,y5,y6,y7,y8,y9,y10,y11][4]?=some y4:=rfl
@[go_sem] theorem get_12_5 {y0 y1 y2 y3 y4 y5 y6 y7 y8 y9 y10 y11:Value}:#[y0,y1,y2,y3,y4,y5,y6,y7,y8,y9,y10,y11][5]?=some y5:=rfl
@[go_sem] theorem get_12_6 {y0 y1 y2 y3 y4 y5 y6 y7 y8 y9 y10 y11:Value}:#[y0,y1,y2,y3,y4,y5,y6,y7,y8,y9,y10,y11][6]?=some y6:=rfl
@[go_sem] theorem get_12_7 {y0 y1 y2 y3 y4 y5 y6 y7 y8 y9 y10 y11:Value}:#[y0,y1,y2,y3,y4,y5,y6,y7,y8,y9,y10,y11][7]?=some y7:=rfl
@[go_sem] theorem get_12_8 {y0 y1 y2 y3 y4 y5 y6 y7 y8 y9 y10 y11:Value}:#[y0,y1,y2,y3,y4,y5,y6,y7,y8,y9,y10,y11][8]?=some y8:=rfl
@[go_sem] theorem get_12_9 {y0 y1 y2 y3 y4 y5 y6 y7 y8 y9 y10 y11:Value}:#[y0,y1,y2,y3,y4,y5,y6,y7,y8,y9,y10,y11][9]?=some y9:=rfl
@[go_sem] theorem get_12_10 {y0 y1 y2 y3 y4 y5 y6 y7 y8 y9 y10 y11:Value}:#[y0,y1,y2,y3,y4,y5,y6,y7,y8,y9,y10,y11][10]?=some y10:=rfl
@[go_sem] theorem get_12_11 {y0 y1 y2 y3 y4 y5 y6 y7 y8 y9 y10 y11:Value}:#[y0,y1,y2,y3,y4,y5,y6,y7,y8,y9,y10,y11][11]?=some y11:=rfl
@[reducible,go_sem] def rgv (s t s2 t2:RV):Value := .agg #[.bool s.n.b,.slice s.n.m.A s.n.m.k s.n.m.c,.slice s.d.A s.d.k s.d.c,.bool t.n.b,.slice t.n.m.A t.n.m.k t.n.m.c,.slice t.d.A t.d.k t.d.c,.bool s2.n.b,.slice s2.n.m.A s2.n.m.k s2.n.m.c,.slice s2.d.A s2.d.k s2.d.c,.bool t2.n.b,.slice t2.n.m.A t2.n.m.k t2.n.m.c,.slice t2.d.A t2.d.k t2.d.c]
@[reducible,go_sem] def bxv (a b c d:List UInt8):Value := .agg #[str a,str b,str c,str d]
def GRet (w:World) (x y:Rat × Rat) (e:Ending) (w':World):Prop:=∃ s t s2 t2:RV,e = .returned (rgv s t s2 t2)/\RatIs w' s.v x.1/\RatIs w' t.v x.2/\RatIs w' s2.v y.1/\RatIs w' t2.v y.2/\Nxt w w'
def mulRe (x y u v:Rat × Rat):Rat × Rat:=subI (mulI x u) (mulI y v)
def mulIm (x y u v:Rat × Rat):Rat × Rat:=addI (mulI x v) (mulI y u)
def bxE (x y:Rat × Rat):Int:=or2 (wE2 x) (wE2 y)
def bxA (x y:Rat × Rat):List UInt8:=if bxE x y=0 then wLo x else []
def bxB (x y:Rat × Rat):List UInt8:=if bxE x y=0 then wHi x else []
def bxC (x y:Rat × Rat):List UInt8:=if bxE x y=0 then wLo y else []
def bxD (x y:Rat × Rat):List UInt8:=if bxE x y=0 then wHi y else []
def ze3 (x y:Rat × Rat):Value := .tuple #[bxv (bxA x y) (bxB x y) (bxC x y) (bxD x y),.int .i64 (bxE x y)]
def badB (e:Int):Value := .tuple #[bxv [] [] [] [],.int .i64 e]
section
variable {w:World} {x y u v:Rat × Rat} {k:Nat} {s t s2 t2 s3 t3 s4 t4:RV}
theorem zkl [h1:RatIs w s.v x.1] [h2:RatIs w t.v x.2] [h3:RatIs w s2.v y.1] [h4:RatIs w t2.v y.2] [h5:RatIs w s3.v u.1] [h6:RatIs w t3.v u.2] [h7:RatIs w s4.v v.1] [h8:RatIs w t4.v v.2]
  [d1:Sz x.1 k] [d2:Sz x.2 k] [d3:Sz y.1 k] [d4:Sz y.2 k] [d5:Sz u.1 k] [d6:Sz u.2 k] [d7:Sz v.1 k] [d8:Sz v.2 k] (hl:k <= 2 ^ 20):
  Calls Tryz.prog 150 #[rgv s t s2 t2,rgv s3 t3 s4 t4] w (GRet w (mulRe x y u v) (mulIm x y u v)):=by
 have HL:=zc hl
 have HM:=zc (show mulRe x y u v=subI (mulI x u) (mulI y v) from rfl)
 have HN:=zc (show mulIm x y u v=addI (mulI x v) (mulI y u) from rfl)
 clear hl
 go_enter Tryz.func150,Tryz.ntmps150
 go_wp2_with fail
 (refine Code.nameW ?_; intro W hW; go_region_held3 (fun w'=>ButO W [w.heap.size+1+1] w') (exact zab) (((first | (go_at_call 93; refine zf (zk0 (by have:=HL.out; omega)) ?_; rintro e w1 ⟨p1,p2,rfl,_,_,_⟩) | (go_at_call 92; refine zf (zpQ (by have:=HL.out; omega)) ?_; rintro e w1 ⟨p1,p2,rfl,_,_,_⟩) | (go_at_call 91; refine zf (zlp (by have:=HL.out; omega)) ?_; rintro e w1 ⟨p1,p2,rfl,_,_,_⟩)))))
 all_goals go_wp2_with fail
 all_goals simp [bodyPost,results,Tryz.results150,go_sem]
 all_goals exact ⟨_,_,_,_,rfl,by rw [HM.out]; infer_instance,by rw [HM.out]; infer_instance,by rw [HN.out]; infer_instance,by rw [HN.out]; infer_instance,zaa⟩
theorem zee {a b c d:Nat} [h1:RatIs w s.v x.1] [h2:RatIs w t.v x.2] [h3:RatIs w s2.v y.1] [h4:RatIs w t2.v y.2] [d1:Sz x.1 a] [d2:Sz x.2 b] [d3:Sz y.1 c] [d4:Sz y.2 d] [hg:Glo w] (ha:a <= 2 ^ 20) (hb:b <= 2 ^ 20) (hc:c <= 2 ^ 20) (hd:d <= 2 ^ 20):
  Calls Tryz.prog 148 #[rgv s t s2 t2] w (PRet w (.tuple #[bxv (bxA x y) (bxB x y) (bxC x y) (bxD x y),.int .i64 (bxE x y)])):=by
 obtain ⟨E,hE⟩:∃ E,bxE x y=E:=⟨_,rfl⟩
 have HE:=zc hE
 have HV1:=zc (show E ≠ 0 -> bxA x y=[]/\bxB x y=[]/\bxC x y=[]/\bxD x y=[] from fun h=>by unfold bxA bxB bxC bxD; rw [hE,if_neg h,if_neg h,if_neg h,if_neg h]; exact ⟨rfl,rfl,rfl,rfl⟩)
 have HV2:=zc (show E=0 -> bxA x y=wLo x/\bxB x y=wHi x/\bxC x y=wLo y/\bxD x y=wHi y from fun h=>by unfold bxA bxB bxC bxD; rw [hE,if_pos h,if_pos h,if_pos h,if_pos h]; exact ⟨rfl,rfl,rfl,rfl⟩)
 rw [hE]
 have HA:=zc ha; have HB:=zc hb; have HC:=zc hc; have HD:=zc hd
 clear hE ha hb hc hd
 go_enter Tryz.func148,Tryz.ntmps148
 go_wp2_with fail
 refine zf (za8 (x:=x) HA.out HB.out) ?_
 rintro e w1 ⟨rfl,_⟩
 go_wp2_with fail
 refine zf (za8 (x:=y) HC.out HD.out) ?_
 rintro e w1 ⟨rfl,_⟩
 go_wp2_with fail
 refine zf zaH ?_
 rw [show or2 (wE2 x) (wE2 y)=E from HE.out]
 rintro e w3 ⟨rfl,_⟩
 go_wp2_with fail
 ·have h0 : E ≠ 0 := ne_b (by assumption)
  simp [bodyPost,results,Tryz.results148,go_sem]
  obtain ⟨e1,e2,e3,e4⟩:=HV1.out h0
  exact ⟨by rw [e1,e2,e3,e4],zaa⟩
 ·have h0 : E = 0 := eq_b (by assumption)
  simp [bodyPost,results,Tryz.results148,go_sem]
  obtain ⟨e1,e2,e3,e4⟩:=HV2.out h0
  exact ⟨by rw [e1,e2,e3,e4,h0],zaa⟩
theorem zdL {a b c d:List UInt8} (h1:a.length < 2 ^ 40) (h2:b.length < 2 ^ 40) (h3:c.length < 2 ^ 40) (h4:d.length < 2 ^ 40):
  Calls Tryz.prog 151 #[bxv a b c d] w (fun e w'=>∃ s t s2 t2:RV,e = .returned (.tuple #[rgv s t s2 t2,.int .i64 (spE2 a b c d)]) /\
   RatIs w' s.v (zq (spE2 a b c d) (readQ a))/\RatIs w' t.v (zq (spE2 a b c d) (readQ b))/\RatIs w' s2.v (zq (spE2 a b c d) (readQ c))/\RatIs w' t2.v (zq (spE2 a b c d) (readQ d))/\Nxt w w'):=by
 obtain ⟨E,hE⟩:∃ E,spE2 a b c d=E:=⟨_,rfl⟩
 have HRD:=zc (show ∀ w,Calls _ _ _ w _ from fun w=>zbX (w:=w) h1 h2 h3 h4)
 rw [hE] at HRD ⊢
 clear h1 h2 h3 h4 hE
 go_enter Tryz.func151,Tryz.ntmps151
 go_wp2_with fail
 refine zf (HRD.out _) ?_
 rintro e w1 ⟨q1,q2,q3,q4,rfl,i1,i2,i3,i4,_⟩
 go_wp2_with fail
 ·have h0 : E ≠ 0 := ne_b (by assumption)
  simp [bodyPost,results,Tryz.results151,go_sem]
  exact ⟨zr,zr,zr,zr,(by repeat' (first | apply And.intro | rfl)),zch h0,zch h0,zch h0,zch h0,zaa⟩
 ·have h0 : E = 0 := eq_b (by assumption)
  subst h0
  simp [bodyPost,results,Tryz.results151,go_sem]
  exact ⟨q1,q2,q3,q4,(by repeat' (first | apply And.intro | rfl)),za,za,za,za,zaa⟩
end
def bxE8 (a b c d e f g h:List UInt8):Int:=or2 (spE2 a b c d) (spE2 e f g h)
def onB (re im:Rat × Rat -> Rat × Rat -> Rat × Rat -> Rat × Rat -> Rat × Rat) (a b c d e f g h:List UInt8):Value:=
 if bxE8 a b c d e f g h=0 then ze3 (re (rdI a b) (rdI c d) (rdI e f) (rdI g h)) (im (rdI a b) (rdI c d) (rdI e f) (rdI g h)) else badB (bxE8 a b c d e f g h)
def conjV (a b c d:List UInt8):Value:=if spE2 a b c d=0 then ze3 (rdI a b) (-(readQ d),-(readQ c)) else badB (spE2 a b c d)
def normV (a b c d:List UInt8):Value:=if spE2 a b c d=0 then zbw (addI (sqI (rdI a b)) (sqI (rdI c d))) else badS (spE2 a b c d)
theorem zjT (re im) (a b c d e f g h:List UInt8):∃ A B C D E,onB re im a b c d e f g h = .tuple #[bxv A B C D,.int .i64 E]:=by
 unfold onB
 split
 ·exact ⟨_,_,_,_,_,rfl⟩
 ·exact ⟨_,_,_,_,_,rfl⟩
structure OpRg (n:FuncId) (re im:Rat × Rat -> Rat × Rat -> Rat × Rat -> Rat × Rat -> Rat × Rat):Prop where
 call:∀ {w:World} {x y u v:Rat × Rat} {k:Nat} {s t s2 t2 s3 t3 s4 t4:RV} [RatIs w s.v x.1] [RatIs w t.v x.2] [RatIs w s2.v y.1] [RatIs w t2.v y.2] [RatIs w s3.v u.1] [RatIs w t3.v u.2] [RatIs w s4.v v.1] [RatIs w t4.v v.2]
  [Sz x.1 k] [Sz x.2 k] [Sz y.1 k] [Sz y.2 k] [Sz u.1 k] [Sz u.2 k] [Sz v.1 k] [Sz v.2 k],k <= 2 ^ 20 -> Calls Tryz.prog n #[rgv s t s2 t2,rgv s3 t3 s4 t4] w (GRet w (re x y u v) (im x y u v))
 run:∀ (args:Array Value) (w:World),Sem.run Tryz.prog (callFunc n args) w = .ok (.enter n args) w
 size:∀ {x y u v:Rat × Rat} [Sz x.1 600] [Sz x.2 600] [Sz y.1 600] [Sz y.2 600] [Sz u.1 600] [Sz u.2 600] [Sz v.1 600] [Sz v.2 600],(Sz (re x y u v).1 5000/\Sz (re x y u v).2 5000)/\(Sz (im x y u v).1 5000/\Sz (im x y u v).2 5000)
theorem Sz.le {q:Rat} {a b:Nat} (h:Sz q a) (hab:a <= b):Sz q b:=⟨zo h.num hab,zo h.den hab⟩
theorem zhM:OpRg 150 mulRe mulIm where
 call h:=zkl h
 run args w:=by kernel_rfl
 size {x y u v} _ _ _ _ _ _ _ _:=⟨⟨(za:Sz (subI (mulI x u) (mulI y v)).1 _).le (by decide),(za:Sz (subI (mulI x u) (mulI y v)).2 _).le (by decide)⟩,
  (za:Sz (addI (mulI x v) (mulI y u)).1 _).le (by decide),(za:Sz (addI (mulI x v) (mulI y u)).2 _).le (by decide)⟩
section
variable {w:World} {a b c d e f g h:List UInt8}
theorem zhO {n:FuncId} {re im:Rat × Rat -> Rat × Rat -> Rat × Rat -> Rat × Rat -> Rat × Rat} (ho:OpRg n re im) [hg:Glo w]
  (h1:a.length < 2 ^ 40) (h2:b.length < 2 ^ 40) (h3:c.length < 2 ^ 40) (h4:d.length < 2 ^ 40) (h5:e.length < 2 ^ 40) (h6:f.length < 2 ^ 40) (h7:g.length < 2 ^ 40) (h8:h.length < 2 ^ 40):
  Calls Tryz.prog 149 #[bxv a b c d,bxv e f g h,.func (.func n) #[] #[]] w (PRet w (onB re im a b c d e f g h)):=by
 have HO:=zc ho
 have hrun:=ho.run
 obtain ⟨E,hE⟩:∃ E,bxE8 a b c d e f g h=E:=⟨_,rfl⟩
 have HE:=zc hE
 have HR1:=zc (show ∀ w,Calls _ _ _ w _ from fun w=>zdL (w:=w) h1 h2 h3 h4)
 have HR2:=zc (show ∀ w,Calls _ _ _ w _ from fun w=>zdL (w:=w) h5 h6 h7 h8)
 have HV1:=zc (show E ≠ 0 -> onB re im a b c d e f g h=badB E from fun hh=>by unfold onB; rw [hE,if_neg hh])
 have HV2:=zc (show E=0 -> onB re im a b c d e f g h=ze3 (re (rdI a b) (rdI c d) (rdI e f) (rdI g h)) (im (rdI a b) (rdI c d) (rdI e f) (rdI g h)) from fun hh=>by unfold onB; rw [hE,if_pos hh])
 have sz:=ho.size (x:=rdI a b) (y:=rdI c d) (u:=rdI e f) (v:=rdI g h)
 obtain ⟨⟨z1,z2⟩,z3,z4⟩:=sz
 clear h1 h2 h3 h4 h5 h6 h7 h8 hE ho
 go_enter Tryz.func149,Tryz.ntmps149
 go_wp2_with fail
 refine zf (HR1.out _) ?_
 rintro e w1 ⟨q1,q2,q3,q4,rfl,i1,i2,i3,i4,_⟩
 go_wp2_with fail
 refine zf (HR2.out _) ?_
 rintro e w1 ⟨q5,q6,q7,q8,rfl,i5,i6,i7,i8,_⟩
 go_wp2_with fail
 refine zf zaH ?_
 rw [show or2 (spE2 a b c d) (spE2 e f g h)=E from HE.out]
 rintro e w3 ⟨rfl,_⟩
 go_wp2_with fail
 ·have h0 : E ≠ 0 := ne_b (by assumption)
  simp [bodyPost,results,Tryz.results149,go_sem]
  exact ⟨by rw [HV1.out h0]; rfl,zaa⟩
 ·have h0 : E = 0 := eq_b (by assumption)
  have hb:=zeT (HE.out.trans h0)
  have i1:RatIs w3 q1.v (rdI a b).1:=zq_ok (E:=spE2 a b c d) za hb.1
  have i2:RatIs w3 q2.v (rdI a b).2:=zq_ok (E:=spE2 a b c d) za hb.1
  have i3:RatIs w3 q3.v (rdI c d).1:=zq_ok (E:=spE2 a b c d) za hb.1
  have i4:RatIs w3 q4.v (rdI c d).2:=zq_ok (E:=spE2 a b c d) za hb.1
  have i5:RatIs w3 q5.v (rdI e f).1:=zq_ok (E:=spE2 e f g h) za hb.2
  have i6:RatIs w3 q6.v (rdI e f).2:=zq_ok (E:=spE2 e f g h) za hb.2
  have i7:RatIs w3 q7.v (rdI g h).1:=zq_ok (E:=spE2 e f g h) za hb.2
  have i8:RatIs w3 q8.v (rdI g h).2:=zq_ok (E:=spE2 e f g h) za hb.2
  refine zf (HO.out.call (x:=rdI a b) (y:=rdI c d) (u:=rdI e f) (v:=rdI g h) (by decide)) ?_
  rintro e w4 ⟨p1,p2,p3,p4,rfl,_,_,_,_,_⟩
  go_wp2_with fail
  refine zf (zee (x:=re (rdI a b) (rdI c d) (rdI e f) (rdI g h)) (y:=im (rdI a b) (rdI c d) (rdI e f) (rdI g h)) (by decide) (by decide) (by decide) (by decide)) ?_
  rintro e w5 ⟨rfl,_⟩
  go_wp2_with fail
  simp [bodyPost,results,Tryz.results149,go_sem]
  exact ⟨by rw [HV2.out h0]; rfl,zaa⟩
theorem zgl [hg:Glo w] (h1:a.length < 2 ^ 40) (h2:b.length < 2 ^ 40) (h3:c.length < 2 ^ 40) (h4:d.length < 2 ^ 40) (h5:e.length < 2 ^ 40) (h6:f.length < 2 ^ 40) (h7:g.length < 2 ^ 40) (h8:h.length < 2 ^ 40):
  Calls Tryz.prog 62 #[bxv a b c d,bxv e f g h] w (PRet w (onB mulRe mulIm a b c d e f g h)):=by
 have HO:=zc (show ∀ (w:World) [Glo w],Calls _ _ _ w _ from fun w _=>zhO (w:=w) zhM h1 h2 h3 h4 h5 h6 h7 h8)
 obtain ⟨A,B,C,D,E,hV⟩:=zjT mulRe mulIm a b c d e f g h
 rw [hV] at HO ⊢
 clear h1 h2 h3 h4 h5 h6 h7 h8 hV
 go_enter Tryz.func62,Tryz.ntmps62
 go_wp2_with fail
 refine zf (HO.out _) ?_
 rintro e w1 ⟨rfl,_⟩
 go_wp2_with fail
 simp [bodyPost,results,Tryz.results62,go_sem]
 exact ⟨rfl,zaa⟩
theorem zgb [hg:Glo w] (h1:a.length < 2 ^ 40) (h2:b.length < 2 ^ 40) (h3:c.length < 2 ^ 40) (h4:d.length < 2 ^ 40):
  Calls Tryz.prog 64 #[bxv a b c d] w (PRet w (conjV a b c d)):=by
 obtain ⟨E,hE⟩:∃ E,spE2 a b c d=E:=⟨_,rfl⟩
 have HR1:=zc (show ∀ w,Calls _ _ _ w _ from fun w=>zdL (w:=w) h1 h2 h3 h4)
 rw [hE] at HR1
 have HV1:=zc (show E ≠ 0 -> conjV a b c d=badB E from fun hh=>by unfold conjV; rw [hE,if_neg hh])
 have HV2:=zc (show E=0 -> conjV a b c d=ze3 (rdI a b) (-(rdI c d).2,-(rdI c d).1) from fun hh=>by unfold conjV; rw [hE,if_pos hh]; rfl)
 have z3:Sz (-(rdI c d).2,-(rdI c d).1).1 600:=(za:Sz (-(rdI c d).2) 600)
 have z4:Sz (-(rdI c d).2,-(rdI c d).1).2 600:=(za:Sz (-(rdI c d).1) 600)
 clear h1 h2 h3 h4 hE
 go_enter Tryz.func64,Tryz.ntmps64
 go_wp2_with fail
 refine zf (HR1.out _) ?_
 rintro e w1 ⟨q1,q2,q3,q4,rfl,i1,i2,i3,i4,_⟩
 go_wp2_with fail
 ·have h0 : E ≠ 0 := ne_b (by assumption)
  simp [bodyPost,results,Tryz.results64,go_sem]
  exact ⟨by rw [HV1.out h0]; rfl,zaa⟩
 ·have h0 : E = 0 := eq_b (by assumption)
  have i1:RatIs w1 q1.v (rdI a b).1:=zq_ok i1 h0
  have i2:RatIs w1 q2.v (rdI a b).2:=zq_ok i2 h0
  have i3:RatIs w1 q3.v (rdI c d).1:=zq_ok i3 h0
  have i4:RatIs w1 q4.v (rdI c d).2:=zq_ok i4 h0
  go_wp2_with fail
  (refine Code.nameW ?_; intro W hW; go_region_held3 (fun w'=>ButO W [w.heap.size+1] w') (exact zab) (((first | (go_at_call 152; refine zf (zlz (x:=rdI c d)) ?_; rintro e w1 ⟨p1,p2,rfl,_,_,_⟩) | (go_at_call 148; refine zf (zee (x:=rdI a b) (y:=(-(rdI c d).2,-(rdI c d).1)) (by decide) (by decide) (by decide) (by decide)) ?_; rintro e w1 ⟨rfl,_⟩)))))
  all_goals go_wp2_with fail
  all_goals simp [bodyPost,results,Tryz.results64,go_sem]
  all_goals exact ⟨by rw [HV2.out h0]; rfl,zaa⟩
theorem zmD [hg:Glo w] (h1:a.length < 2 ^ 40) (h2:b.length < 2 ^ 40) (h3:c.length < 2 ^ 40) (h4:d.length < 2 ^ 40):
  Calls Tryz.prog 65 #[bxv a b c d] w (PRet w (normV a b c d)):=by
 obtain ⟨E,hE⟩:∃ E,spE2 a b c d=E:=⟨_,rfl⟩
 have HR1:=zc (show ∀ w,Calls _ _ _ w _ from fun w=>zdL (w:=w) h1 h2 h3 h4)
 rw [hE] at HR1
 have HV1:=zc (show E ≠ 0 -> normV a b c d=badS E from fun hh=>by unfold normV; rw [hE,if_neg hh])
 have HV2:=zc (show E=0 -> normV a b c d=zbw (addI (sqI (rdI a b)) (sqI (rdI c d))) from fun hh=>by unfold normV; rw [hE,if_pos hh])
 have y1:=zhF (x:=rdI a b) (k:=1200) za za
 have y2:=zhF (x:=rdI c d) (k:=1200) za za
 obtain ⟨y1,y3⟩:=y1
 obtain ⟨y2,y4⟩:=y2
 clear h1 h2 h3 h4 hE
 go_enter Tryz.func65,Tryz.ntmps65
 go_wp2_with fail
 refine zf (HR1.out _) ?_
 rintro e w1 ⟨q1,q2,q3,q4,rfl,i1,i2,i3,i4,_⟩
 go_wp2_with fail
 ·have h0 : E ≠ 0 := ne_b (by assumption)
  simp [bodyPost,results,Tryz.results65,go_sem]
  exact ⟨by rw [HV1.out h0]; rfl,zaa⟩
 ·have h0 : E = 0 := eq_b (by assumption)
  have i1:RatIs w1 q1.v (rdI a b).1:=zq_ok i1 h0
  have i2:RatIs w1 q2.v (rdI a b).2:=zq_ok i2 h0
  have i3:RatIs w1 q3.v (rdI c d).1:=zq_ok i3 h0
  have i4:RatIs w1 q4.v (rdI c d).2:=zq_ok i4 h0
  go_wp2_with fail
  (refine Code.nameW ?_; intro W hW; go_region_held3 (fun w'=>ButO W [w.heap.size+1] w') (exact zab) (((first | (go_at_call 88; refine zf (zjE (by decide)) ?_; rintro e w1 ⟨p1,p2,rfl,_,_,_⟩) | (go_at_call 91; refine zf (zlp (x:=sqI (rdI a b)) (y:=sqI (rdI c d)) (by decide)) ?_; rintro e w1 ⟨p1,p2,rfl,_,_,_⟩) | (go_at_call 74; refine zf (za8 (x:=addI (sqI (rdI a b)) (sqI (rdI c d))) (by decide) (by decide)) ?_; rintro e w1 ⟨rfl,_⟩)))))
  all_goals go_wp2_with fail
  all_goals simp [bodyPost,results,Tryz.results65,go_sem]
  all_goals exact ⟨by rw [HV2.out h0]; rfl,zaa⟩
end
end Go.Proofs.YtombhkpniddceaaGreatDoor
