import Derived.Test.YtombhkpniddceaaGreatDoorM24
set_option maxHeartbeats 3200000
set_option maxRecDepth 100000
set_option linter.all false
namespace Go.Proofs.YtombhkpniddceaaGreatDoor
open Go.Lib Go.RowKit Go.Sort
def incl (a:Rat × Rat) (x:Rat):Rat × Rat:=if cmpQ x a.1 < 0 then (x,a.2) else if 0 < cmpQ x a.2 then (a.1,x) else a
def comb (op:Rat -> Rat -> Rat) (a b:Rat × Rat):Rat × Rat:=incl (incl (incl (op a.1 b.1,op a.1 b.1) (op a.1 b.2)) (op a.2 b.1)) (op a.2 b.2)
def hasZ (a:Rat × Rat):Bool:=decide (sgnI a.1.num <= 0) && decide (0 <= sgnI a.2.num)
def sqI (a:Rat × Rat):Rat × Rat:=
 let p:=if 0 < cmpQ (a.1 * a.1) (a.2 * a.2) then (a.2 * a.2,a.1 * a.1) else (a.1 * a.1,a.2 * a.2)
 if hasZ a=true then (0,p.2) else p
theorem zfL {a:Rat × Rat} {x:Rat} {k:Nat} (h1:Sz a.1 k) (h2:Sz a.2 k) (h3:Sz x k):Sz (incl a x).1 k/\Sz (incl a x).2 k:=by
 unfold incl
 split
 ·exact ⟨h3,h2⟩
 ·split
  ·exact ⟨h1,h3⟩
  ·exact ⟨h1,h2⟩
theorem zc3 {op:Rat -> Rat -> Rat} {a b:Rat × Rat} {k m c:Nat} (hop:∀ q r:Rat,Sz q k -> Sz r m -> Sz (op q r) c) (h1:Sz a.1 k) (h2:Sz a.2 k) (h3:Sz b.1 m) (h4:Sz b.2 m):Sz (comb op a b).1 c/\Sz (comb op a b).2 c:=by
 unfold comb
 have e0:=hop _ _ h1 h3
 have e1:=zfL e0 e0 (hop _ _ h1 h4) (a:=(op a.1 b.1,op a.1 b.1))
 have e2:=zfL e1.1 e1.2 (hop _ _ h2 h3)
 exact zfL e2.1 e2.2 (hop _ _ h2 h4)
section
variable {w:World} {x y:Rat × Rat} {q:Rat} {a b c:Nat} {s t s2 t2 r:RV}
theorem zdx [h1:RatIs w s.v x.1] [h2:RatIs w t.v x.2] [h3:RatIs w r.v q] [d1:Sz x.1 a] [d2:Sz x.2 b] [d3:Sz q c] (hl:a+b+c <= 2 ^ 35):
  Calls Tryz.prog 237 #[ivv s t,r.v] w (VRet w (incl x q)):=by
 have H1:=zc (show cmpQ q x.1 < 0 -> incl x q=(q,x.2) from fun h=>if_pos h)
 have H2:=zc (show ¬ cmpQ q x.1 < 0 -> 0 < cmpQ q x.2 -> incl x q=(x.1,q) from fun h h2=>by unfold incl; rw [if_neg h,if_pos h2])
 have H3:=zc (show ¬ cmpQ q x.1 < 0 -> ¬ 0 < cmpQ q x.2 -> incl x q=x from fun h h2=>by unfold incl; rw [if_neg h,if_neg h2])
 go_enter Tryz.func237,Tryz.ntmps237
 go_wp2_with (first | (go_at_call 97; refine zf (zbz (by omega)) ?_; rintro e w1 ⟨rfl,_⟩))
 ·have hE := H1.out (by assumption)
  simp [bodyPost,results,Tryz.results237,go_sem]
  exact ⟨r,t,(by repeat' (first | apply And.intro | rfl)),by rw [hE]; infer_instance,by rw [hE]; infer_instance,zaa⟩
 ·have hE := H2.out (by omega) (by assumption)
  simp [bodyPost,results,Tryz.results237,go_sem]
  exact ⟨s,r,(by repeat' (first | apply And.intro | rfl)),by rw [hE]; infer_instance,by rw [hE]; infer_instance,zaa⟩
 ·have hE := H3.out (by omega) (by omega)
  simp [bodyPost,results,Tryz.results237,go_sem]
  exact ⟨s,t,(by repeat' (first | apply And.intro | rfl)),by rw [hE]; infer_instance,by rw [hE]; infer_instance,zaa⟩
@[reducible,go_sem] def fval (n:FuncId):Value := .func (.func n) #[] #[]
structure OpIs (n:FuncId) (op:Rat -> Rat -> Rat):Prop where
 call:∀ {w:World} {v1 v2:Value} {q r:Rat} {a b:Nat} [RatIs w v1 q] [RatIs w v2 r] [Sz q a] [Sz r b],a+b <= 2 ^ 34 -> Calls Tryz.prog n #[v1,v2] w (RRet w (op q r))
 run:∀ (args:Array Value) (w:World),Sem.run Tryz.prog (callFunc n args) w = .ok (.enter n args) w
 size:∀ {q r:Rat} {k:Nat},Sz q k -> Sz r k -> Sz (op q r) (k+k+1)
theorem opMul:OpIs 122 (fun q r=>q * r) where
 call h:=zcW (by omega)
 run args w:=by kernel_rfl
 size {q r k} h1 h2:=by have h:Sz (q * r) (k+k):=za; exact ⟨Nat.le_succ_of_le h.num,Nat.le_succ_of_le h.den⟩
theorem zdl {n:FuncId} {op:Rat -> Rat -> Rat} {k:Nat} (ho:OpIs n op) [h1:RatIs w s.v x.1] [h2:RatIs w t.v x.2] [h3:RatIs w s2.v y.1] [h4:RatIs w t2.v y.2] [d1:Sz x.1 k] [d2:Sz x.2 k] [d3:Sz y.1 k] [d4:Sz y.2 k] (hl:k <= 2 ^ 30):
  Calls Tryz.prog 184 #[ivv s t,ivv s2 t2,.func (.func n) #[] #[]] w (VRet w (comb op x y)):=by
 have HO:=zc ho
 have HC:=zc (show comb op x y=incl (incl (incl (op x.1 y.1,op x.1 y.1) (op x.1 y.2)) (op x.2 y.1)) (op x.2 y.2) from rfl)
 have z0:=ho.size d1 d3; have z1:=ho.size d1 d4; have z2:=ho.size d2 d3; have z3:=ho.size d2 d4
 have y1:=zfL (a:=(op x.1 y.1,op x.1 y.1)) z0 z0 z1
 have y2:=zfL y1.1 y1.2 z2
 obtain ⟨u1,u2⟩:=y1
 obtain ⟨u3,u4⟩:=y2
 have HL:=zc hl
 have hrun:=ho.run
 clear ho hl
 go_enter Tryz.func184,Tryz.ntmps184
 go_wp2_with fail
 refine zf (HO.out.call (by have:=HL.out; omega)) ?_
 rintro e w1 ⟨q1,rfl,_,_⟩
 go_wp2_with fail
 go_upto_region 3 with fail
 go_cut [] (fun wx=>∃ p1 p2:RV,Blk wx (w1.heap.size+1) 106 #[.bool p1.n.b,.slice p1.n.m.A p1.n.m.k p1.n.m.c,.slice p1.d.A p1.d.k p1.d.c,.bool p2.n.b,.slice p2.n.m.A p2.n.m.k p2.n.m.c,.slice p2.d.A p2.d.k p2.d.c] /\
   Blk wx w.heap.size 106 #[.bool s.n.b,.slice s.n.m.A s.n.m.k s.n.m.c,.slice s.d.A s.d.k s.d.c,.bool t.n.b,.slice t.n.m.A t.n.m.k t.n.m.c,.slice t.d.A t.d.k t.d.c] /\
   Blk wx (w.heap.size+1) 106 #[.bool s2.n.b,.slice s2.n.m.A s2.n.m.k s2.n.m.c,.slice s2.d.A s2.d.k s2.d.c,.bool t2.n.b,.slice t2.n.m.A t2.n.m.k t2.n.m.c,.slice t2.d.A t2.d.k t2.d.c] /\
   Blk wx (w.heap.size+1+1) 106 #[.bool false,.slice none 0 0,.slice none 0 0,.bool false,.slice none 0 0,.slice none 0 0] /\
   RatIs wx p1.v (incl (op x.1 y.1,op x.1 y.1) (op x.1 y.2)).1/\RatIs wx p2.v (incl (op x.1 y.1,op x.1 y.1) (op x.1 y.2)).2/\Nxt w wx)
 case first=>
  go_region_with ((first | (go_at_call 237; refine zf (zdx (x:=(op x.1 y.1,op x.1 y.1)) (by have:=HL.out; omega)) ?_; rintro e w1 ⟨p1,p2,rfl,_,_,_⟩) | (refine zf (HO.out.call (by have:=HL.out; omega)) ?_; rintro e w1 ⟨q2,rfl,_,_⟩)))
  all_goals go_wp2_with fail
  all_goals go_meet
  all_goals exact ⟨p1,p2,za,za,za,za,za,za,zaa⟩
 case rest=>
  obtain ⟨p1,p2,_,_,_,_,_,_,_⟩:=hcut
  go_upto_region 4 with fail
  go_cut [] (fun wx=>∃ p1 p2:RV,Blk wx (w1.heap.size+1) 106 #[.bool p1.n.b,.slice p1.n.m.A p1.n.m.k p1.n.m.c,.slice p1.d.A p1.d.k p1.d.c,.bool p2.n.b,.slice p2.n.m.A p2.n.m.k p2.n.m.c,.slice p2.d.A p2.d.k p2.d.c] /\
    Blk wx w.heap.size 106 #[.bool s.n.b,.slice s.n.m.A s.n.m.k s.n.m.c,.slice s.d.A s.d.k s.d.c,.bool t.n.b,.slice t.n.m.A t.n.m.k t.n.m.c,.slice t.d.A t.d.k t.d.c] /\
    Blk wx (w.heap.size+1) 106 #[.bool s2.n.b,.slice s2.n.m.A s2.n.m.k s2.n.m.c,.slice s2.d.A s2.d.k s2.d.c,.bool t2.n.b,.slice t2.n.m.A t2.n.m.k t2.n.m.c,.slice t2.d.A t2.d.k t2.d.c] /\
    Blk wx (w.heap.size+1+1) 106 #[.bool false,.slice none 0 0,.slice none 0 0,.bool false,.slice none 0 0,.slice none 0 0] /\
    RatIs wx p1.v (incl (incl (op x.1 y.1,op x.1 y.1) (op x.1 y.2)) (op x.2 y.1)).1/\RatIs wx p2.v (incl (incl (op x.1 y.1,op x.1 y.1) (op x.1 y.2)) (op x.2 y.1)).2/\Nxt w wx)
  case first=>
   go_region_with ((first | (go_at_call 237; refine zf (zdx (x:=(incl (op x.1 y.1,op x.1 y.1) (op x.1 y.2))) (by have:=HL.out; omega)) ?_; rintro e w1 ⟨p1,p2,rfl,_,_,_⟩) | (refine zf (HO.out.call (by have:=HL.out; omega)) ?_; rintro e w1 ⟨q2,rfl,_,_⟩)))
   all_goals go_wp2_with fail
   all_goals go_meet
   all_goals exact ⟨p1,p2,za,za,za,za,za,za,zaa⟩
  case rest=>
   obtain ⟨p1,p2,_,_,_,_,_,_,_⟩:=hcut
   go_upto_region 5 with fail
   (refine Code.nameW ?_; intro W hW; go_region_held3 (fun w'=>ButO W [w.heap.size+1+1] w') (exact zab) ((first | (go_at_call 237; refine zf (zdx (x:=(incl (incl (op x.1 y.1,op x.1 y.1) (op x.1 y.2)) (op x.2 y.1))) (by have:=HL.out; omega)) ?_; rintro e w1 ⟨p1,p2,rfl,_,_,_⟩) | (refine zf (HO.out.call (by have:=HL.out; omega)) ?_; rintro e w1 ⟨q2,rfl,_,_⟩))))
   all_goals go_wp2_with fail
   all_goals simp [bodyPost,results,Tryz.results184,go_sem]
   all_goals exact ⟨p1,p2,(by repeat' (first | apply And.intro | rfl)),by rw [HC.out]; infer_instance,by rw [HC.out]; infer_instance,zaa⟩
end
end Go.Proofs.YtombhkpniddceaaGreatDoor
