import Derived.Test.YtombhkpniddceaaGreatDoorM10
set_option maxHeartbeats 1600000
set_option linter.all false
namespace Go.Proofs.YtombhkpniddceaaGreatDoor
open Go.RowKit
def zay:List Int -> Int
 | []=>0
 | e :: t=>if e=0 then zay t else e
theorem zcd {l:List Int} (h:∀ e ∈ l,e=0):zay l=0:=by
 induction l with
 | nil=>rfl
 | cons e t ih=>
  rw [zay,if_pos (h e (by simp))]
  exact ih (fun e he=>h e (by simp [he]))
theorem zcK:∀ {l:List Int} {i:Nat} {x:Int},(∀ (j:Nat) (y:Int),j < i -> l[j]?=some y -> y=0) -> l[i]?=some x -> x ≠ 0 -> zay l=x:=by
 intro l
 induction l with
 | nil=>intro i x _ h _; simp at h
 | cons e t ih=>
  intro i x h hx h0
  cases i with
  | zero=>
   have:e=x:=by simpa using hx
   subst this
   rw [zay,if_neg h0]
  | succ i=>
   have he:e=0:=h 0 e (by omega) (by simp)
   rw [zay,if_pos he]
   exact ih (i:=i) (fun j y hj hy=>h (j+1) y (by omega) (by simpa using hy)) (by simpa using hx) h0
theorem zik {g c n:Nat} {t:TypeId} {es:List Int} {vs:Array Value} {w:World} [hb:Blk w g t vs] (hv:vs=(es.map (Value.int .i64)).toArray) (hl:es.length=n) (hn:n < 2 ^ 40):
  Calls Tryz.prog 117 #[.slice (some ⟨g,0,none⟩) n c] w (PRet w (.int .i64 (zay es))):=by
 have hc:∀ (i:Nat) (x:Int),es[i]?=some x -> w.cell? ⟨g,i,none⟩=some (.int .i64 x):=by
  intro i x hx
  rw [Blk.cell (vs:=vs),hv]
  simp [hx]
 have HC:=zc hc; have HN:=zc hn; have HL:=zc hl
 clear hc hn hl hv hb
 go_enter Tryz.func117,Tryz.ntmps117
 go_wp2_with fail
 go_loopw [7] (fun s7 wr=>∃ i:Nat,s7 = .int .i64 (i:Int)/\i <= n/\(∀ (j:Nat) (y:Int),j < i -> es[j]?=some y -> y=0)/\∃ m,wr=w.drewN m) (fun s7 _=>n - (intOf s7).toNat)
 case atStart=>exact ⟨0,rfl,Nat.zero_le _,fun _ _ h=>absurd h (by omega),0,rfl⟩
 case round=>
  obtain ⟨i,rfl,hi,hok,m,rfl⟩:=hrel
  have HO:=zc hok
  clear hok
  by_cases hin:i < n
  ·have hlt : decide ((i : Int) < (n : Int)) = true := by simp; omega
   have hlt':(i:Int) < (n:Int):=by omega
   have hadd:IntKind.i64.wrap ((i:Int)+1)=((i+1:Nat):Int):=by have:=HN.out; rw [zx]; omega
   obtain ⟨x,hx⟩:∃ x,es[i]?=some x:=⟨es[i]'(by rw [HL.out]; exact hin),zg _⟩
   have k3:(w.drewN m).cell? ⟨g,i,none⟩=some (.int .i64 x):=HC.out i x hx
   have HX:=zc hx
   clear hx
   by_cases hxy:x=0
   ·subst hxy
    go_wp2_with fail
    go_roundw
    case rel=>exact ⟨i+1,rfl,hin,fun j y hj hy=>by
     rcases Nat.lt_or_ge j i with h | h
     ·exact HO.out j y h hy
     ·obtain rfl : j = i := by omega
      rw [HX.out] at hy; exact (zl hy).symm,_,rfl⟩
    case measure=>simp [intOf]; omega
   ·have hnx : (x != 0) = true := by simpa using hxy
    go_wp2_with fail
    go_ret
    exact ⟨by rw [zcK HO.out HX.out hxy]; rfl,zaa⟩
  ·have hlt : decide ((i : Int) < (n : Int)) = false := by simp; omega
   have hlt':¬ (i:Int) < (n:Int):=by omega
   go_wp2_with fail
   go_ret
   exact ⟨by rw [zcd (fun e he=>by
    obtain ⟨j,hj,rfl⟩:=List.getElem_of_mem he
    exact HO.out j _ (by have:=HL.out; omega) (zg hj))]; rfl,zaa⟩
def or2 (a b:Int):Int:=if a=0 then b else a
theorem zaH {g c:Nat} {t:TypeId} {x y:Int} {w:World} [hb:Blk w g t #[.int .i64 x,.int .i64 y]]:
  Calls Tryz.prog 117 #[.slice (some ⟨g,0,none⟩) 2 c] w (PRet w (.int .i64 (or2 x y))):=by
 have h:=zik (g:=g) (c:=c) (n:=2) (es:=[x,y]) (w:=w) rfl rfl (by omega)
 rw [show zay [x,y]=or2 x y by
  unfold or2 zay zay zay
  split
  ·split <;> simp_all
  ·rfl] at h
 exact h
theorem zfn {v1:Value} {q:Rat} {a:Nat} {w:World} [h1:RatIs w v1 q] [d1:Sz q a] (hl:a <= 2 ^ 36):
  Calls Tryz.prog 144 #[v1] w (IRet w (q.num / (q.den:Int))):=by
 obtain ⟨s1,rfl,_,n1,k1,HE1⟩:=h1.form
 have hM:a+a+a+a+9 <= MaxW:=by unfold MaxW; omega
 have nz:NZ (q.den:Int):=⟨by have:=q.den_nz; omega⟩
 have HF:=zc (zbN (x:=q.num) q.den_nz)
 clear hl
 go_enter Tryz.func144,Tryz.ntmps144
 go_wp2_with fail
 (refine Code.nameW ?_; intro W hW; go_region_held3 (fun w'=>ButO W [w.heap.size+1] w') (exact zab) ((first | (go_at_call 167; refine zf (zak) ?_; rintro e w1 ⟨s1,rfl,_,_⟩) | (go_at_call 172; refine zf (zal (by omega)) ?_; rintro e w1 ⟨s1,rfl,_,_⟩))))
 all_goals go_wp2_with fail
 all_goals simp [bodyPost,results,Tryz.results144,go_sem]
 all_goals exact ⟨s1,rfl,by rw [<- HF.out]; infer_instance,zaa⟩
end Go.Proofs.YtombhkpniddceaaGreatDoor
