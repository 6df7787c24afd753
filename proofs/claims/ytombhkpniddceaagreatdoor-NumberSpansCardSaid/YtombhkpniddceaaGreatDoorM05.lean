import Derived.Test.YtombhkpniddceaaGreatDoorM04
set_option maxHeartbeats 3200000
set_option linter.all false
namespace Go.Proofs.YtombhkpniddceaaGreatDoor
open Go.RowKit
theorem Code.nameW {P:Program} {c:Code} {Q:Exit -> Act -> World -> Prop} {a:Act} {w:World} (h:∀ W,Was W w -> Code.wp P c Q a W):Code.wp P c Q a w:=h w ⟨rfl⟩
class WdN (n:Nat) (k:outParam Nat):Prop where
 out:wl n <= k
instance {z:Int} {k:Nat} [h:Wd z k]:WdN z.natAbs k:=⟨h.out⟩
instance {n k:Nat} [h:WdN n k]:Wd (n:Int) k:=⟨h.out⟩
instance {n m k:Nat} [h:WdN n k]:WdN (n / m) k:=⟨zo (zar (Nat.div_le_self n m)) h.out⟩
instance {n m k:Nat} [h:WdN n k]:WdN (n % m) k:=⟨zo (zar (Nat.mod_le n m)) h.out⟩
section
variable {v1 v2:Value} {n m a b:Nat} {w:World} [h1:NatIs w v1 n] [h2:NatIs w v2 m] [d1:WdN n a] [d2:WdN m b]
theorem zfv (h:a+b <= MaxW) (hm:m ≠ 0):Calls Tryz.prog 262 #[v1,v2] w fun e w'=>∃ s t:NV,e = .returned (.tuple #[s.v,t.v])/\NatIs w' s.v (n / m)/\NatIs w' t.v (n % m)/\Nxt w w':=
 (zlB v1 v2 n m w h1 h2 (by have := d1.out; omega) (by have := d2.out; omega) hm).mono fun _ _ ⟨v, v', he, hv, hv', hb⟩ => by
  obtain ⟨s,rfl⟩:=hv.form
  obtain ⟨t,rfl⟩:=hv'.form
  exact ⟨s,t,he,hv,hv',⟨hb⟩⟩
theorem zb0 {t:Nat} (h:a <= MaxW) (ht:bl n=t):Calls Tryz.prog 230 #[v1] w fun e w'=>e = .returned (.int .i64 (t:Int))/\w=w':=by
 subst ht
 exact zel v1 n w h1 (by have:=d1.out; omega)
end
theorem ziO {y:Int} (h:y ≠ 0):(sgnI y == 0)=false:=by
 unfold sgnI
 rcases Int.lt_trichotomy y 0 with h1 | h1 | h1
 ·rw [if_pos h1]; rfl
 ·exact absurd h1 h
 ·rw [if_neg (by omega),if_neg h]; rfl
theorem wl_one:wl (1:Int).natAbs <= 1:=zaf (by unfold B64; omega)
instance:Wd 1 1:=⟨wl_one⟩
def DRet (w:World) (x y:Int) (e:Ending) (w':World):Prop:=∃ s t:IV,e = .returned (.tuple #[s.v,t.v])/\IntIs w' s.v x/\IntIs w' t.v y/\Nxt w w'
theorem zh7 {s1 s2:IV} {n1 n2 a b c d:Nat} {y z1 z2 R1 R2:Int} {w:World} [h1:NatIs w s1.m.v n1] [h2:NatIs w s2.m.v n2] [h3:IntIs w s2.v y] [d1:WdN n1 a] [d2:WdN n2 b] [d3:Wd y b] [e1:Wd z1 c] [e2:Wd z2 d]
  (hl:a+b+c+d+9 <= MaxW) (hs:(sgnI y == 0)=false) (HY0:Hid (n2 ≠ 0)) (HZ1:Hid (sgn (s1.b != s2.b) (n1 / n2)=z1)) (HZ2:Hid (sgn s1.b (n1 % n2)=z2))
  (HX:Hid ((s1.b != s2.b)=false ∨ n1 % n2=0 -> z1=R1/\z2=R2)) (HX':Hid ((s1.b != s2.b)=true -> n1 % n2 ≠ 0 -> z1 - 1=R1/\z2+y=R2)):
  Calls Tryz.prog 233 #[s1.v,s2.v] w (DRet w R1 R2):=by
 obtain ⟨b1,m1⟩:=s1
 obtain ⟨b2,m2⟩:=s2
 dsimp only at *
 go_enter Tryz.func233,Tryz.ntmps233
 go_wp2_with ((first
  | (go_at_call 164; refine zf (zbd) ?_; rintro e w1 ⟨rfl,_⟩)
  | (go_at_call 262; refine zf (zfv (by omega) HY0.out) ?_; rintro e w1 ⟨s3,s4,rfl,_,_,_⟩)))
 go_upto_region 4 with fail
 go_cut [8,9] (fun t8 t9 wx=>∃ (g8 g9:Nat) (s8 s9:IV),t8 = .pointer (some ⟨g8,0,none⟩)/\t9 = .pointer (some ⟨g9,0,none⟩)/\Blk wx g8 98 #[.bool s8.b,s8.m.v]/\Blk wx g9 98 #[.bool s9.b,s9.m.v] /\
  IntIs wx s8.v z1/\IntIs wx s9.v z2/\NewIn g8 w1/\NewIn g9 w1/\Nxt w1 wx)
 case first=>
  refine Code.nameW ?_
  intro W hW
  go_region_held3 (fun w'=>Nxt W w') (exact zaa) ((first | (go_at_call 160; refine zf (zbq) ?_; rintro e w1 ⟨b3,rfl,_,_⟩)))
  all_goals go_wp2_with fail
  all_goals go_meet
  all_goals exact ⟨_,_,⟨_,s3⟩,⟨_,s4⟩,rfl,rfl,za,za,by rw [<- HZ1.out]; infer_instance,by rw [<- HZ2.out]; infer_instance,zbh,zbh,zaa⟩
 case rest=>
  obtain ⟨g8,g9,s8,s9,rfl,rfl,_,_,_,_,_,_,_⟩:=hcut
  by_cases hr:n1 % n2=0
  ·have hb0 := zc (show bl (n1 % n2) = 0 by rw [hr, zjt])
   obtain ⟨rfl,rfl⟩:z1=R1/\z2=R2:=HX.out (Or.inr hr)
   clear hr HX HX'
   go_wp2_with ((go_at_call 230; refine zf (zb0 (a:=a) (by omega) hb0.out) ?_; rintro e w1 ⟨rfl,rfl⟩))
   all_goals (refine Code.nameW ?_; intro W hW; go_region_held3 (fun w'=>ButO W [w.heap.size+1+1,w.heap.size+1+1+1] w') (exact zab) (fail))
   all_goals go_wp2_with fail
   all_goals simp [bodyPost,results,Tryz.results233,go_sem]
   all_goals exact ⟨s8,s9,rfl,za,za,zaa⟩
  ·obtain ⟨q, hb0⟩ : ∃ q, Hid (bl (n1 % n2) = q + 1) := ⟨bl (n1 % n2) - 1, by have := (zco hr).1; show _ = _; omega⟩
   cases hbb:b1 != b2
   ·obtain ⟨rfl, rfl⟩ : z1 = R1 /\ z2 = R2 := HX.out (Or.inl hbb)
    obtain rfl:b1=b2:=by simpa using hbb
    clear hr HX HX' hbb
    go_wp2_with ((go_at_call 230; refine zf (zb0 (a:=a) (by omega) hb0.out) ?_; rintro e w1 ⟨rfl,rfl⟩))
    all_goals (refine Code.nameW ?_; intro W hW; go_region_held3 (fun w'=>ButO W [w.heap.size+1+1,w.heap.size+1+1+1] w') (exact zab) (fail))
    all_goals go_wp2_with fail
    all_goals simp [bodyPost,results,Tryz.results233,go_sem]
    all_goals exact ⟨s8,s9,rfl,za,za,zaa⟩
   ·obtain ⟨rfl, rfl⟩ : z1 - 1 = R1 /\ z2 + y = R2 := HX'.out hbb hr
    obtain rfl:b2 = !b1:=by cases b1 <;> cases b2 <;> simp at hbb ⊢
    clear hr HX HX' hbb
    go_wp2_with ((go_at_call 230; refine zf (zb0 (a:=a) (by omega) hb0.out) ?_; rintro e w1 ⟨rfl,rfl⟩))
    all_goals (refine Code.nameW ?_; intro W hW; go_region_held3 (fun w'=>ButO W [w.heap.size+1+1,w.heap.size+1+1+1] w') (exact zab) ((first
     | (go_at_call 141; refine zf (zaD (n:=1) (by omega) (by omega)) ?_; rintro e w1 ⟨s5,rfl,_,_⟩)
     | (go_at_call 239; refine zf (zcy (by omega)) ?_; rintro e w1 ⟨s6,rfl,_,_⟩)
     | (go_at_call 199; refine zf (zbm (by omega)) ?_; rintro e w1 ⟨s7,rfl,_,_⟩))))
    all_goals go_wp2_with fail
    all_goals simp [bodyPost,results,Tryz.results233,go_sem]
    all_goals exact ⟨s6,s7,rfl,za,za,zaa⟩
end Go.Proofs.YtombhkpniddceaaGreatDoor
