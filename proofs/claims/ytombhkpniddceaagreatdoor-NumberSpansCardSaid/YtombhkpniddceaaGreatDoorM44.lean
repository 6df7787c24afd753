import Derived.Test.YtombhkpniddceaaGreatDoorM26
set_option maxHeartbeats 25600000
set_option maxRecDepth 100000
set_option synthInstance.maxSize 20000
set_option linter.all false
namespace Go.Proofs.YtombhkpniddceaaGreatDoor
section
open Go.RowKit
def B9:Nat:=1000000000
def zpJ (ws:List Nat):List Value:=ws.map fun (x:Nat)=>Value.int .i64 (x:Int)
structure DigAt (w:World) (A:Option Addr) (ws:List Nat):Prop where
 lt:∀ x ∈ ws,x < B9
 at_:∀ (j u:Nat),ws[j]?=some u -> ∃ ad,A=some ad/\ad.block < w.heap.size/\w.cell? (ad.add j)=some (.int .i64 (u:Int))
theorem DigAt.nil (w:World) (A:Option Addr):DigAt w A []:=⟨by simp,by simp⟩
theorem DigAt.below {w w':World} {A:Option Addr} {ws:List Nat} (h:DigAt w A ws) (hb:Below w.heap.size w w'):DigAt w' A ws:=
 ⟨h.lt, fun j u hu => by
  obtain ⟨ad,e,hl,hc⟩:=h.at_ j u hu
  exact ⟨ad,e,Nat.lt_of_lt_of_le hl hb.size,(hb.cell (by rw [zaw]; exact hl)).trans hc⟩⟩
theorem DigAt.drew {w:World} {A:Option Addr} {ws:List Nat} (h:DigAt w A ws):DigAt w.drew A ws:=h.below (Below.refl _ _).drew
theorem DigAt.alloc {w:World} {A:Option Addr} {ws:List Nat} (h:DigAt w A ws) (o:Obj):DigAt (w.alloc o) A ws:=h.below ((Below.refl _ _).alloc (zv _) o)
theorem DigAt.take {w:World} {A:Option Addr} {ws:List Nat} (h:DigAt w A ws) (n:Nat):DigAt w A (ws.take n):=
 ⟨fun x hx => h.lt x (List.mem_of_mem_take hx), fun j u hu => by
  refine h.at_ j u ?_
  rw [List.getElem?_take] at hu
  split at hu
  ·exact hu
  ·cases hu⟩
theorem DigAt.get {w:World} {A:Option Addr} {ws:List Nat} (h:DigAt w A ws) {k:Nat} (hk:k < ws.length):
  ∃ (ad:Addr) (x:Nat),A=some ad/\ad.block < w.heap.size/\w.cell? (ad.add k)=some (.int .i64 (x:Int))/\x < B9/\Hid (ws[k]?=some x):=by
 obtain ⟨ad,e,hl,hc⟩:=h.at_ k _ (zg hk)
 exact ⟨ad,_,e,hl,hc,h.lt _ (List.getElem_mem hk),zg hk⟩
def dval:List Nat -> Nat
 | []=>0
 | x :: r=>x+B9 * dval r
def digs (n:Nat):List Nat:=
 if _h:n=0 then [] else n % B9 :: digs (n / B9)
termination_by n
decreasing_by exact Nat.div_lt_self (by omega) (by unfold B9; omega)
theorem zaQ:digs 0=[]:=by unfold digs; simp
theorem zdh {n:Nat} (h:n ≠ 0):digs n=n % B9 :: digs (n / B9):=by rw [digs]; simp [h]
theorem zj4 {n:Nat}:digs n=[] ↔ n=0:=by
 constructor
 ·intro h
  by_cases h0:n=0
  ·exact h0
  ·rw [zdh h0] at h; cases h
 ·rintro rfl; exact zaQ
theorem zaC:0 < B9:=by unfold B9; omega
theorem zbI (n:Nat):∀ x ∈ digs n,x < B9:=by
 induction n using Nat.strongRecOn with
 | _ n ih=>
  by_cases h0:n=0
  ·subst h0; simp [zaQ]
  ·rw [zdh h0]
   intro x hx
   rcases List.mem_cons.1 hx with rfl | hx
   ·exact Nat.mod_lt _ zaC
   ·exact ih _ (Nat.div_lt_self (by omega) (by unfold B9; omega)) x hx
theorem zai (n:Nat):dval (digs n)=n:=by
 induction n using Nat.strongRecOn with
 | _ n ih=>
  by_cases h0:n=0
  ·subst h0; simp [zaQ,dval]
  ·rw [zdh h0, dval, ih _ (Nat.div_lt_self (by omega) (by unfold B9; omega))]
   exact Nat.mod_add_div n B9
theorem zfW {x n:Nat} (hx:x < B9) (h:x+B9 * n ≠ 0):digs (x+B9 * n)=x :: digs n:=by
 rw [zdh h,Nat.add_mul_mod_self_left,Nat.mod_eq_of_lt hx,Nat.add_mul_div_left _ _ zaC,Nat.div_eq_of_lt hx,Nat.zero_add]
theorem zhB (ws:List Nat) (h:∀ x ∈ ws,x < B9):(digs (dval ws)).length <= ws.length/\ws.take (digs (dval ws)).length=digs (dval ws):=by
 induction ws with
 | nil=>simp [dval,zaQ]
 | cons x r ih=>
  obtain ⟨i1,i2⟩:=ih fun y hy=>h y (List.mem_cons_of_mem _ hy)
  have hx:=h x List.mem_cons_self
  by_cases h0:x+B9 * dval r=0
  ·simp [dval,h0,zaQ]
  ·rw [dval, zfW hx h0]
   exact ⟨by simpa using i1,by simp [i2]⟩
theorem zaL (a b:List Nat):dval (a ++ b)=dval a+B9 ^ a.length * dval b:=by
 induction a with
 | nil=>simp [dval]
 | cons x r ih=>
  simp only [List.cons_append,dval,ih,List.length_cons,Nat.pow_succ,Nat.mul_add,Nat.add_assoc]
  rw [zw (B9 ^ r.length) B9,Nat.mul_assoc]
theorem zgw (r:List Nat) (x:Nat) (h:∀ y ∈ r,y < B9) (hx:x < B9) (h0:x ≠ 0):digs (dval (r ++ [x]))=r ++ [x]:=by
 induction r with
 | nil=>
  have e:dval [x]=x+B9 * 0:=by simp [dval]
  rw [List.nil_append,e,zfW hx (by omega),zaQ]
 | cons y s ih=>
  have hv:dval (s ++ [x]) ≠ 0:=by
   rw [zaL]
   have:0 < B9 ^ s.length * x:=Nat.mul_pos (Nat.pow_pos zaC) (by omega)
   simp [dval]; omega
  have hb:0 < B9 * dval (s ++ [x]):=Nat.mul_pos zaC (by omega)
  rw [List.cons_append,dval,zfW (h y List.mem_cons_self) (by omega),ih fun z hz=>h z (List.mem_cons_of_mem _ hz)]
theorem zme {ws:List Nat} {k x:Nat} (hb:∀ y ∈ ws,y < B9) (h:ws[k]?=some x) (h0:x ≠ 0):digs (dval (ws.take (k+1)))=ws.take (k+1):=by
 rw [zaU h]
 exact zgw _ _ (fun y hy=>hb y (List.mem_of_mem_take hy)) (hb x (zk h)) h0
theorem zdo (r:List Nat):dval (r ++ [0])=dval r:=by rw [zaL]; simp [dval]
theorem zc0 (ws:List Nat) (h:∀ x ∈ ws,x < B9):dval ws < B9 ^ ws.length:=by
 induction ws with
 | nil=>simp [dval]
 | cons x r ih=>
  have i:=ih fun y hy=>h y (List.mem_cons_of_mem _ hy)
  have hx:=h x List.mem_cons_self
  rw [dval,List.length_cons,Nat.pow_succ,zw (B9 ^ r.length)]
  calc x+B9 * dval r < B9+B9 * dval r:=by omega
   _=B9 * (dval r+1):=by rw [Nat.mul_add]; omega
   _ <= B9 * B9 ^ r.length:=Nat.mul_le_mul_left _ i
class DigIs (w:World) (v:Value) (n:outParam Nat):Prop where
 ex:∃ A c,v = .slice A (digs n).length c/\(digs n).length <= c/\c <= maxLen/\DigAt w A (digs n)
theorem DigIs.below {w w':World} {v:Value} {n:Nat} (h:DigIs w v n) (hb:Below w.heap.size w w'):DigIs w' v n:=by
 obtain ⟨A,c,e,h1,h2,h3⟩:=h
 exact ⟨A,c,e,h1,h2,h3.below hb⟩
theorem DigIs.zero (w:World):DigIs w (.slice none 0 0) 0:=⟨none,0,by simp [zaQ],by simp [zaQ],by unfold maxLen; omega,by rw [zaQ]; exact DigAt.nil _ _⟩
structure DBuf (w:World) (g:Nat) (ws:List Nat):Prop where
 lt:∀ x ∈ ws,x < B9
 row:∃ tl:List Value,w.heap[g]?=some (.cells (zpJ ws ++ tl).toArray 220 (0,0))
theorem DBuf.size {w:World} {g:Nat} {ws:List Nat} (h:DBuf w g ws):g < w.heap.size:=by
 rcases Nat.lt_or_ge g w.heap.size with hlt | hge
 ·exact hlt
 ·obtain ⟨_,tl,this⟩:=h; rw [Array.getElem?_eq_none hge] at this; cases this
theorem DBuf.cell {w:World} {g:Nat} {ws:List Nat} (h:DBuf w g ws) {i x:Nat} (hx:ws[i]?=some x):w.cell? ⟨g,i,none⟩=some (.int .i64 (x:Int)):=by
 obtain ⟨_,tl,hr⟩:=h
 rw [cell_of_row w g i _ _ _ hr]
 obtain ⟨hi,_⟩:=zh.1 hx
 rw [List.getElem?_toArray,List.getElem?_append_left (by simpa [zpJ] using hi)]
 simp [zpJ,hx]
theorem DBuf.frozen {w:World} {g:Nat} {ws:List Nat} (h:DBuf w g ws) (i:Nat):w.frozen? ⟨g,i,none⟩=false:=by
 obtain ⟨_,tl,hr⟩:=h
 simp [World.frozen?,hr]
theorem DBuf.set_ {w:World} {g:Nat} {ws:List Nat} (h:DBuf w g ws) (i s:Nat) (hs:s < B9):DBuf (w.setCell ⟨g,i,none⟩ (.int .i64 (s:Int))) g (ws.set i s):=by
 refine ⟨fun x hx=>?_,?_⟩
 ·rcases List.mem_or_eq_of_mem_set hx with hx | rfl
  ·exact h.lt x hx
  ·exact hs
 ·obtain ⟨_, tl, hr⟩ := h
  by_cases hi:i < ws.length
  ·exact ⟨tl,by simp [World.setCell,Array.getElem?_modify,hr,zpJ,List.map_set,List.set_append_left _ _ (show i < (List.map (fun (x:Nat)=>Value.int .i64 (x:Int)) ws).length by simpa using hi)]⟩
  ·exact ⟨tl.set (i - ws.length) (.int .i64 (s:Int)),by
    rw [List.set_eq_of_length_le (by omega)]
    simp [World.setCell,Array.getElem?_modify,hr,zpJ,List.set_append_right _ _ (show (List.map (fun (x:Nat)=>Value.int .i64 (x:Int)) ws).length <= i by simp; omega)]⟩
theorem DBuf.drew {w:World} {g:Nat} {ws:List Nat} (h:DBuf w g ws):DBuf w.drew g ws:=⟨h.lt,h.row⟩
theorem DBuf.keep {w w':World} {g:Nat} {ws:List Nat} (h:DBuf w g ws) (e:w'.heap[g]?=w.heap[g]?):DBuf w' g ws:=⟨h.lt,let ⟨tl,hr⟩:=h.row; ⟨tl,e.trans hr⟩⟩
theorem DBuf.alloc {w:World} {g:Nat} {ws:List Nat} (h:DBuf w g ws) (o:Obj):DBuf (w.alloc o) g ws:=h.keep (Below.heap_alloc w o g h.size)
theorem DBuf.far {w:World} {g:Nat} {ws:List Nat} (h:DBuf w g ws) {p:Addr} (hp:g ≠ p.block) (u:Value):DBuf (w.setCell p u) g ws:=h.keep (Below.heap_setCell w p u g hp)
theorem DBuf.below {w w':World} {g:Nat} {ws:List Nat} (h:DBuf w g ws) (hb:Below w.heap.size w w'):DBuf w' g ws:=h.keep (hb.block g h.size)
theorem DBuf.words {w:World} {g:Nat} {ws:List Nat} (h:DBuf w g ws) (o n:Nat):DigAt w (some ⟨g,o,none⟩) ((ws.drop o).take n):=
 ⟨fun x hx => h.lt x (List.mem_of_mem_drop (List.mem_of_mem_take hx)), fun j u hu => by
  refine ⟨_,rfl,h.size,?_⟩
  have e:(Addr.add ⟨g,o,none⟩ j)=⟨g,o+j,none⟩:=by unfold Addr.add; by_cases hj:j=0 <;> simp [hj]
  rw [e]
  apply h.cell
  rw [List.getElem?_take] at hu
  split at hu
  ·rw [List.getElem?_drop] at hu; exact hu
  ·cases hu⟩
theorem Drew.digs {w w':World} (h:Drew w w') {A:Option Addr} {ws:List Nat} (hw:DigAt w A ws):DigAt w' A ws:=hw.below (h.below _)
theorem Only.digs {g:Nat} {a b:World} (h:Only g a b) {A:Option Addr} {ws:List Nat} (hw:DigAt a A ws) (hA:∀ ad,A=some ad -> 0 < ws.length -> ad.block ≠ g):DigAt b A ws:=
 ⟨hw.lt, fun j u hu => by
  obtain ⟨ad,e,hl,hc⟩:=hw.at_ j u hu
  refine ⟨ad,e,by rw [h.size]; exact hl,?_⟩
  rw [<- hc]
  exact World.cell?_of_block (w:=a) (h.block _ (by rw [zaw]; exact hA ad e (by obtain ⟨hj,_⟩:=zh.1 hu; omega)))⟩
theorem DigAt.ne_ {w:World} {A:Option Addr} {ws:List Nat} (h:DigAt w A ws) {g:Nat} (hg:w.heap.size <= g):∀ ad,A=some ad -> 0 < ws.length -> ad.block ≠ g:=by
 rintro ad rfl h0
 obtain ⟨ad',_,e,hl,_⟩:=h.get h0
 cases e
 omega
def dl (n:Nat):Nat:=(digs n).length
theorem zn3 (n:Nat):(digs n).length=dl n:=rfl
theorem zfA (n:Nat):n < B9 ^ dl n:=by
 have:=zc0 (digs n) (zbI n)
 rwa [zai] at this
theorem zba {n k:Nat} (h:n < B9 ^ k):dl n <= k:=by
 induction k generalizing n with
 | zero=>
  have:n=0:=by simp at h; exact h
  subst this
  simp [dl,zaQ]
 | succ k ih=>
  by_cases h0:n=0
  ·subst h0; simp [dl,zaQ]
  ·have:n / B9 < B9 ^ k:=by
    rw [Nat.div_lt_iff_lt_mul zaC]
    rwa [Nat.pow_succ] at h
   have:=ih this
   unfold dl at this ⊢
   rw [zdh h0,List.length_cons]
   omega
theorem zep {a b:Nat} (h:a <= b):dl a <= dl b:=zba (Nat.lt_of_le_of_lt h (zfA b))
theorem zfr {j k:Nat} (h:j <= k):B9 ^ j <= B9 ^ k:=Nat.pow_le_pow_right zaC h
theorem zfZ:dl 0=0:=by simp [dl,zaQ]
theorem zf0 {n:Nat} (h:n ≠ 0):0 < dl n:=by
 rcases Nat.eq_zero_or_pos (dl n) with h0 | h0
 ·exact absurd (zj4.1 (List.eq_nil_of_length_eq_zero h0)) h
 ·exact h0
end
section
open Go.RowKit
theorem zl9 (A:Option Addr) (c:Nat) (ws:List Nat) (w:World) (h:DigAt w A ws) (hc:ws.length <= c) (hm:c <= maxLen):
  Calls Tryz.prog 235 #[.slice A ws.length c] w fun e w'=>e = .returned (.slice A (digs (dval ws)).length c)/\w=w':=by
 unfold maxLen at hm
 go_enter Tryz.func235,Tryz.ntmps235
 go_wp2
 go_loop [0] (fun s=>∃ n:Nat,n <= ws.length/\s = .slice A n c/\dval (ws.take n)=dval ws) (fun s=>sliceLen s)
 case atStart=>exact ⟨ws.length,zv _,rfl,by rw [List.take_length]⟩
 case round=>
  obtain ⟨n,hn,rfl,hv⟩:=hrel
  have HV:=zc hv
  clear hv
  by_cases h0:0 < n
  ·obtain ⟨ad, x, rfl, _, hcell, hx, HX⟩ := h.get (k := n - 1) (by omega)
   have HL:=zc h.lt
   clear h
   by_cases hz:x=0
   ·subst hz
    go_wp2
    go_round
    case rel=>exact ⟨n - 1,by omega,by go_num,by rw [<- HV.out,<- zdo,<- zaU HX.out,show n - 1+1=n by omega]⟩
    case measure=>simp [sliceLen]; omega
   ·have hb : ((x : Int) == 0) = false := by simp [hz]
    go_wp2
    go_ret
    refine ⟨zdI ?_,rfl⟩
    have e:=zme HL.out HX.out hz
    rw [show n - 1+1=n by omega,HV.out] at e
    rw [e,List.length_take]; omega
  ·go_wp2
   go_ret
   refine ⟨zdI ?_,rfl⟩
   have hn0:n=0:=by omega
   rw [<- HV.out,hn0]
   simp [dval,zaQ]
theorem zjl {w:World} {A:Option Addr} {c:Nat} {ws:List Nat} (h:DigAt w A ws) (hc:ws.length <= c) (hm:c <= maxLen):DigIs w (.slice A (digs (dval ws)).length c) (dval ws):=
 ⟨A,c,rfl,zo (zhB ws h.lt).1 hc,hm,by have:=h.take (digs (dval ws)).length; rwa [(zhB ws h.lt).2] at this⟩
end
structure Guess9 (y1 y0 u d q r:Nat):Prop where
 eq:q * y1+r=u
 ge:(u * B9+d) / (y1 * B9+y0) <= q
theorem zid {y1 y0 u d:Nat} (h1:0 < y1) (hd:d < B9):Guess9 y1 y0 u d (u / y1) (u % y1):=by
 refine ⟨by rw [zw]; exact Nat.div_add_mod u y1,?_⟩
 rw [Nat.le_div_iff_mul_le h1]
 have h:=Nat.div_mul_le_self (u * B9+d) (y1 * B9+y0)
 generalize (u * B9+d) / (y1 * B9+y0)=q at *
 rw [Nat.mul_add,<- Nat.mul_assoc] at h
 have h2:q * y1 * B9 < (u+1) * B9:=by rw [Nat.add_mul]; omega
 have:=Nat.lt_of_mul_lt_mul_right h2
 omega
section
open Go.RowKit
class DigL (w:World) (v:Value) (ds:outParam (List Nat)):Prop where
 ex:∃ A c,v = .slice A ds.length c/\ds.length <= c/\c <= maxLen/\DigAt w A ds
class ZIs (w:World) (v:Value) (z:outParam Int):Prop where
 ex:∃ m,v = .agg #[.bool (decide (z < 0)),m]/\DigIs w m z.natAbs
class ND (v:Value):Prop where
 out:∀ u:Int,v ≠ .int .i64 u
class NoDig (vs:Array Value) (i:Nat):Prop where
 out:∀ u:Int,vs[i]? ≠ some (.int .i64 u)
instance {b:Bool}:ND (.bool b):=⟨by intro u e; cases e⟩
instance {A:Option Addr} {k c:Nat}:ND (.slice A k c):=⟨by intro u e; cases e⟩
instance {s:ByteArray}:ND (.string s):=⟨by intro u e; cases e⟩
instance {y0 y1:Value} [h:ND y0]:NoDig #[y0,y1] 0:=⟨fun u e=>h.out u (zl e)⟩
instance {y0 y1:Value} [h:ND y1]:NoDig #[y0,y1] 1:=⟨fun u e=>h.out u (zl e)⟩
section
variable {w w' W X a:World} {v:Value} {n g i:Nat} {ds:List Nat} {t:TypeId} {vs:Array Value} {x:Value} {o:Obj}
theorem DigAt.setOwn {A:Option Addr} (h:DigAt w A ds) (hb:Blk w g t vs) (hi:NoDig vs i):DigAt (w.setCell ⟨g,i,none⟩ x) A ds:=by
 refine ⟨h.lt,fun j u hu=>?_⟩
 obtain ⟨ad,e,hl,hc⟩:=h.at_ j u hu
 refine ⟨ad,e,by simpa [World.setCell] using hl,?_⟩
 by_cases hg:(ad.add j).block=g
 ·unfold World.cell? at hc ⊢
  rw [hg,hb.out] at hc
  simp only at hc
  have hs:((w.setCell ⟨g,i,none⟩ x).heap[g]?)=some (.cells (vs.setIfInBounds i x) t (0,0)):=by
   have:=hb.out
   simp [World.setCell,Array.getElem?_modify,this]
  rw [hg,hs]
  simp only
  by_cases hsp:(ad.add j).spot.isSome=true
  ·rw [if_pos hsp] at hc; cases hc
  ·rw [if_neg hsp] at hc ⊢
   by_cases ho:(ad.add j).off=i
   ·rw [ho] at hc
    exact absurd hc (hi.out u)
   ·rw [Array.getElem?_setIfInBounds_ne (Ne.symm ho)]
    exact hc
 ·rw [World.cell?_of_block (Below.heap_setCell _ _ _ _ hg)]
  exact hc
theorem DigIs.setOwn (h:DigIs w v n) (hb:Blk w g t vs) (hi:NoDig vs i):DigIs (w.setCell ⟨g,i,none⟩ x) v n:=by
 obtain ⟨A,c,e,h1,h2,h3⟩:=h
 exact ⟨A,c,e,h1,h2,h3.setOwn hb hi⟩
theorem DigL.setOwn (h:DigL w v ds) (hb:Blk w g t vs) (hi:NoDig vs i):DigL (w.setCell ⟨g,i,none⟩ x) v ds:=by
 obtain ⟨A,c,e,h1,h2,h3⟩:=h
 exact ⟨A,c,e,h1,h2,h3.setOwn hb hi⟩
theorem DigL.below (h:DigL w v ds) (hb:Below w.heap.size w w'):DigL w' v ds:=by
 obtain ⟨A,c,e,h1,h2,h3⟩:=h
 exact ⟨A,c,e,h1,h2,h3.below hb⟩
theorem DigIs.list (h:DigIs w v n):DigL w v (digs n):=by
 obtain ⟨A,c,e,h1,h2,h3⟩:=h
 exact ⟨A,c,e,h1,h2,h3⟩
theorem ZIs.below {z:Int} (h:ZIs w v z) (hb:Below w.heap.size w w'):ZIs w' v z:=by
 obtain ⟨m,e,hm⟩:=h
 exact ⟨m,e,hm.below hb⟩
theorem ZIs.setOwn {z:Int} (h:ZIs w v z) (hb:Blk w g t vs) (hi:NoDig vs i):ZIs (w.setCell ⟨g,i,none⟩ x) v z:=by
 obtain ⟨m,e,hm⟩:=h
 exact ⟨m,e,hm.setOwn hb hi⟩
instance DigIs.was_ [h:Was W X] [k:DigIs X v n]:DigIs W v n:=by rw [h.out]; exact k
instance DigIs.nxt_ [h:Nxt a w'] [k:DigIs a v n]:DigIs w' v n:=k.below h.out
instance DigIs.set_ [k:DigIs X v n] [hb:Blk X g t vs] [hi:NoDig vs i]:DigIs (X.setCell ⟨g,i,none⟩ x) v n:=k.setOwn hb hi
instance DigIs.drew_ [k:DigIs X v n]:DigIs X.drew v n:=k.below (Below.refl _ _).drew
instance DigIs.drewN_ {m0:Nat} [k:DigIs X v n]:DigIs (X.drewN m0) v n:=k.below (Below.drewN _ _ _)
instance DigIs.alloc_ [k:DigIs X v n]:DigIs (X.alloc o) v n:=k.below ((Below.refl _ _).alloc (zv _) o)
instance DigL.was_ [h:Was W X] [k:DigL X v ds]:DigL W v ds:=by rw [h.out]; exact k
instance DigL.nxt_ [h:Nxt a w'] [k:DigL a v ds]:DigL w' v ds:=k.below h.out
instance DigL.set_ [k:DigL X v ds] [hb:Blk X g t vs] [hi:NoDig vs i]:DigL (X.setCell ⟨g,i,none⟩ x) v ds:=k.setOwn hb hi
instance DigL.drew_ [k:DigL X v ds]:DigL X.drew v ds:=k.below (Below.refl _ _).drew
instance DigL.drewN_ {m0:Nat} [k:DigL X v ds]:DigL (X.drewN m0) v ds:=k.below (Below.drewN _ _ _)
instance DigL.alloc_ [k:DigL X v ds]:DigL (X.alloc o) v ds:=k.below ((Below.refl _ _).alloc (zv _) o)
instance ZIs.was_ {z:Int} [h:Was W X] [k:ZIs X v z]:ZIs W v z:=by rw [h.out]; exact k
instance ZIs.nxt_ {z:Int} [h:Nxt a w'] [k:ZIs a v z]:ZIs w' v z:=k.below h.out
instance ZIs.set_ {z:Int} [k:ZIs X v z] [hb:Blk X g t vs] [hi:NoDig vs i]:ZIs (X.setCell ⟨g,i,none⟩ x) v z:=k.setOwn hb hi
instance ZIs.drew_ {z:Int} [k:ZIs X v z]:ZIs X.drew v z:=k.below (Below.refl _ _).drew
instance ZIs.drewN_ {m0:Nat} {z:Int} [k:ZIs X v z]:ZIs (X.drewN m0) v z:=k.below (Below.drewN _ _ _)
instance ZIs.alloc_ {z:Int} [k:ZIs X v z]:ZIs (X.alloc o) v z:=k.below ((Below.refl _ _).alloc (zv _) o)
theorem DigIs.form (h:DigIs w v n):∃ s:NV,v=s.v/\Hid (s.k=dl n):=by
 obtain ⟨A,c,rfl,_⟩:=h
 exact ⟨⟨A,_,c⟩,rfl,rfl⟩
theorem DigL.form (h:DigL w v ds):∃ s:NV,v=s.v/\Hid (s.k=ds.length):=by
 obtain ⟨A,c,rfl,_⟩:=h
 exact ⟨⟨A,_,c⟩,rfl,rfl⟩
theorem ZIs.form {z:Int} (h:ZIs w v z):∃ s:IV,v=s.v/\Hid (s.b=decide (z < 0))/\DigIs w s.m.v z.natAbs/\Hid (s.m.k=dl z.natAbs):=by
 obtain ⟨m,rfl,hm⟩:=h
 obtain ⟨s,rfl,hk⟩:=hm.form
 exact ⟨⟨_,s⟩,rfl,rfl,hm,hk⟩
end
theorem DigL.at_ {w:World} {A:Option Addr} {k c:Nat} {ds:List Nat} (h:DigL w (.slice A k c) ds):ds.length=k/\k <= c/\c <= maxLen/\DigAt w A ds:=by
 obtain ⟨B,d,e,h1,h2,h3⟩:=h
 injection e with e1 e2 e3
 subst e1; subst e3
 exact ⟨e2.symm,by omega,h2,h3⟩
def DRetN (w:World) (n:Nat) (e:Ending) (w':World):Prop:=∃ s:NV,e = .returned s.v/\DigIs w' s.v n/\Nxt w w'
def ZRet (w:World) (z:Int) (e:Ending) (w':World):Prop:=∃ s:IV,e = .returned s.v/\ZIs w' s.v z/\Nxt w w'
theorem trim_c {v:Value} {ds:List Nat} {w:World} [h:DigL w v ds]:Calls Tryz.prog 235 #[v] w (DRetN w (dval ds)):=by
 obtain ⟨A,c,rfl,h1,h2,h3⟩:=h
 refine (zl9 A c ds w h3 h1 h2).mono ?_
 rintro e w' ⟨rfl,rfl⟩
 exact ⟨⟨A,_,c⟩,rfl,zjl h3 h1 h2,zaa⟩
theorem zIs_sgn {w:World} {s:NV} {neg:Bool} {n:Nat} (h:DigIs w s.v n):ZIs w (.agg #[.bool (neg && decide (0 < n)),s.v]) (sgn neg n):=by
 refine ⟨s.v,?_,?_⟩
 ·cases neg <;> simp [sgn]
 ·cases neg <;> simpa [sgn] using h
theorem DigIs.len {w:World} {A:Option Addr} {k c n:Nat} (h:DigIs w (.slice A k c) n):k=dl n:=by
 obtain ⟨B,d,e,_⟩:=h
 injection e
theorem zkG {n:Nat}:decide (0 < dl n)=decide (0 < n):=by
 rcases Nat.eq_zero_or_pos n with h0 | h0
 ·rw [h0]; simp [zfZ]
 ·have:=zf0 (Nat.pos_iff_ne_zero.1 h0); simp [h0,this]
theorem zaP {neg:Bool} {v:Value} {ds:List Nat} {w:World} [h:DigL w v ds]:Calls Tryz.prog 208 #[.bool neg,v] w (ZRet w (sgn neg (dval ds))):=by
 obtain ⟨s0,rfl,hk⟩:=h.form
 go_enter Tryz.func208,Tryz.ntmps208
 go_wp2_with fail
 refine zf trim_c ?_
 rintro e w1 ⟨⟨A,k,c⟩,rfl,hd,hx⟩
 have hlen:decide (0 < k)=decide (0 < dval ds):=by have hk:=hd.len; simp only at hk; rw [hk]; exact zkG
 have HZ:Hid (ZIs w1 (.agg #[.bool (neg && decide (0 < dval ds)),.slice A k c]) (sgn neg (dval ds))):=zc (zIs_sgn (s:=⟨A,k,c⟩) hd)
 generalize decide (0 < dval ds)=b at *
 have HL:=zc hlen
 cases neg
 ·go_wp2_with fail
  simp [bodyPost,results,Tryz.results208,go_sem]
  have hz:=HZ.out
  exact ⟨⟨false,⟨A,k,c⟩⟩,rfl,by simp only [Bool.false_and] at hz; infer_instance,zaa⟩
 ·go_wp2_with fail
  simp [bodyPost,results,Tryz.results208,go_sem]
  have hz:=HZ.out
  simp only [Bool.true_and] at hz
  exact ⟨⟨b,⟨A,k,c⟩⟩,rfl,by infer_instance,zaa⟩
end
section
open Go.RowKit
def dg (ds:List Nat) (i:Nat):Nat:=ds.getD i 0
theorem zbu {ds:List Nat} {i x:Nat} (h:ds[i]?=some x):dg ds i=x:=by simp [dg,h]
theorem zeq {ds:List Nat} {i:Nat} (h:ds.length <= i):dg ds i=0:=by simp [dg,h]
theorem dg_lt {ds:List Nat} (h:∀ x ∈ ds,x < B9) (i:Nat):dg ds i < B9:=by
 rcases Nat.lt_or_ge i ds.length with hi | hi
 ·rw [zbu (zg hi)]; exact h _ (List.getElem_mem hi)
 ·rw [zeq hi]; exact zaC
theorem zaO (ds:List Nat) (i:Nat):dval (ds.take (i+1))=dval (ds.take i)+B9 ^ i * dg ds i:=by
 rcases Nat.lt_or_ge i ds.length with hi | hi
 ·rw [zaU (zg hi), zaL, zbu (zg hi)]
  simp [dval,Nat.min_eq_left (Nat.le_of_lt hi)]
 ·rw [zeq hi,List.take_of_length_le (by omega),List.take_of_length_le hi]; simp
theorem zjk {v:Value} {ds:List Nat} {w:World} [h:DigL w v ds] (i:Nat) (hi:i < 2 ^ 60):
  Calls Tryz.prog 242 #[v,.int .i64 (i:Int)] w (fun e w'=>e = .returned (.int .i64 (dg ds i:Int))/\w=w'):=by
 obtain ⟨⟨A,k,c⟩,rfl,_⟩:=h.form
 obtain ⟨rfl,h1,h2,h3⟩:=h.at_
 by_cases hin:i < ds.length
 ·obtain ⟨ad, x, rfl, _, hc, _, HX⟩ := h3.get hin
  rw [zbu HX.out]
  have hlt:decide ((i:Int) < (ds.length:Int))=true:=by simp; omega
  have hlt':(i:Int) < (ds.length:Int):=by omega
  clear h h3 h1 h2
  generalize ds.length=n at *
  go_enter Tryz.func242,Tryz.ntmps242
  go_wp2_with fail
  go_ret
  exact ⟨rfl,rfl⟩
 ·rw [zeq (by omega)]
  have hlt:decide ((i:Int) < (ds.length:Int))=false:=by simp; omega
  clear h h3 h1 h2
  generalize ds.length=n at *
  go_enter Tryz.func242,Tryz.ntmps242
  go_wp2_with fail
  go_ret
  exact ⟨rfl,rfl⟩
theorem zgN {us vs:List Nat} {k x y:Nat} (hu:∀ z ∈ us,z < B9) (hd:us.drop (k+1)=vs.drop (k+1)) (hx:us[k]?=some x) (hy:vs[k]?=some y) (h:x < y):dval us < dval vs:=by
 have hs:∀ {l:List Nat} {z:Nat},l[k]?=some z -> dval l=dval (l.take k)+B9 ^ k * (z+B9 * dval (l.drop (k+1))):=by
  intro l z hz
  obtain ⟨hk,e⟩:=zh.1 hz
  conv=>lhs; rw [<- List.take_append_drop k l,zaL,List.drop_eq_getElem_cons hk,dval]
  rw [List.length_take,Nat.min_eq_left (by omega),e]
 rw [hs hx,hs hy,hd]
 have h1:dval (us.take k) < B9 ^ k:=by
  have:=zc0 (us.take k) (fun z hz=>hu z (List.mem_of_mem_take hz))
  refine Nat.lt_of_lt_of_le this (zfr ?_)
  rw [List.length_take]
  exact Nat.min_le_left _ _
 have h2:B9 ^ k * (x+B9 * dval (vs.drop (k+1))+1) <= B9 ^ k * (y+B9 * dval (vs.drop (k+1))):=Nat.mul_le_mul_left _ (by omega)
 rw [Nat.mul_add _ _ 1] at h2
 omega
theorem zjY {a b:Nat} (h:dl a < dl b):a < b:=by
 rcases Nat.lt_or_ge a b with h1 | h1
 ·exact h1
 ·have:=zep h1; omega
theorem zbp {v1 v2:Value} {a b:Nat} {w:World} [h1:DigIs w v1 a] [h2:DigIs w v2 b]:
  Calls Tryz.prog 210 #[v1,v2] w (fun e w'=>e = .returned (.int .i64 (cmpN a b))/\Drew w w'):=by
 obtain ⟨A,c,rfl,m1,m2,hA⟩:=h1
 obtain ⟨B,d,rfl,m3,m4,hB⟩:=h2
 have hn:dl a <= maxLen:=zo m1 m2
 have hm:dl b <= maxLen:=zo m3 m4
 rw [zn3] at *
 rw [zn3]
 clear m1 m2 m3 m4
 unfold maxLen at hn hm
 by_cases hl:dl a=dl b
 ·have HL := zc hl
  have hl2:dl b <= dl a:=by omega
  have hne:((dl a:Int) != (dl b:Int))=false:=by simp [hl]
  clear hl
  go_enter Tryz.func210,Tryz.ntmps210
  go_wp2_with fail
  go_loopw [5] (fun s wr=>∃ k:Nat,k <= dl a/\s = .int .i64 ((k:Int) - 1)/\(digs a).drop k=(digs b).drop k/\Drew w wr) (fun s _=>(intOf s+1).toNat)
  case atStart=>exact ⟨dl a,zv _,by first | rfl | go_num,by rw [List.drop_of_length_le (by exact zv _),List.drop_of_length_le (by exact hl2)],Drew.refl _⟩
  case round=>
   obtain ⟨k,hk,rfl,hd,hdw⟩:=hrel
   have HD:=zc hd
   clear hd
   by_cases h0:0 < k
   ·obtain ⟨j, rfl⟩ : ∃ j, k = j + 1 := ⟨k - 1, by omega⟩
    rw [show ((j+1:Nat):Int) - 1=(j:Int) by omega]
    have hge:decide ((0:Int) <= (j:Int))=true:=by simp
    have hsub:IntKind.i64.wrap ((j:Int) - 1)=(j:Int) - 1:=by rw [zx]; omega
    have hj1:(j:Int) < (dl a:Int):=by omega
    have hj2:(j:Int) < (dl b:Int):=by have:=HL.out; omega
    obtain ⟨ad,x,rfl,_,hcx,hxl,HX⟩:=(hdw.digs hA).get (show j < (digs a).length by show j < dl a; omega)
    obtain ⟨bd,y,rfl,_,hcy,hyl,HY⟩:=(hdw.digs hB).get (show j < (digs b).length by have:=HL.out; show j < dl b; omega)
    have HHA:=zc hA; have HHB:=zc hB; have HDW:=zc hdw
    clear hA hB hdw
    rcases Nat.lt_trichotomy x y with hxy | hxy | hxy
    ·have HC : Hid (a < b) := zc (by have := zgN (zbI a) HD.out HX.out HY.out hxy; rwa [zai, zai] at this)
     go_wp2_with fail
     go_quiet (fail)
     go_wp2_with fail
     go_ret
     exact ⟨zbF (zb7 HC.out).symm,HDW.out.more _⟩
    ·subst hxy
     go_wp2_with fail
     go_quiet (fail)
     go_wp2_with fail
     go_quiet (fail)
     go_wp2_with fail
     go_roundw
     case rel=>
      refine ⟨j,by omega,rfl,?_,HDW.out.more _⟩
      obtain ⟨h1,e1⟩:=zh.1 HX.out
      obtain ⟨h2,e2⟩:=zh.1 HY.out
      rw [List.drop_eq_getElem_cons h1,List.drop_eq_getElem_cons h2,e1,e2,HD.out]
     case measure=>simp [intOf]
    ·have hxy' : ¬ x < y := by omega
     have HC:Hid (b < a):=zc (by have:=zgN (zbI b) HD.out.symm HY.out HX.out hxy; rwa [zai,zai] at this)
     go_wp2_with fail
     go_quiet (fail)
     go_wp2_with fail
     go_quiet (fail)
     go_wp2_with fail
     go_ret
     exact ⟨zbF (zbR HC.out).symm,(HDW.out.more _).more _⟩
   ·obtain rfl : k = 0 := by omega
    have hge:decide ((0:Int) <= ((0:Nat):Int) - 1)=false:=by decide
    go_wp2_with fail
    go_ret
    have hd:=HD.out
    rw [List.drop_zero,List.drop_zero] at hd
    have hab:a=b:=by rw [<- zai a,<- zai b,hd]
    exact ⟨zbF (by rw [hab,zbS]),hdw⟩
 ·have hne : ((dl a : Int) != (dl b : Int)) = true := by simp; omega
  rcases Nat.lt_or_ge (dl a) (dl b) with hlt | hge
  ·have HC := zc (zjY hlt)
   clear hl
   go_enter Tryz.func210,Tryz.ntmps210
   go_wp2_with fail
   go_ret
   exact ⟨zbF (zb7 HC.out).symm,Drew.refl _⟩
  ·have hnl : ¬ dl a < dl b := by omega
   have HC:=zc (zjY (a:=b) (b:=a) (by omega))
   clear hge hl
   go_enter Tryz.func210,Tryz.ntmps210
   go_wp2_with fail
   go_ret
   exact ⟨zbF (zbR HC.out).symm,Drew.refl _⟩
end
section
open Go.RowKit
def ints (ds:List Nat):List Int:=ds.map fun (x:Nat)=>(x:Int)
theorem zb1 (ds:List Nat) (x:Nat):ints (ds ++ [x])=ints ds ++ [(x:Int)]:=by simp [ints]
theorem zax (ds:List Nat):(ints ds).length=ds.length:=by simp [ints]
theorem OwnI.dig {w:World} {v:Value} {ds:List Nat} (h:OwnI w v (ints ds)) (hb:∀ x ∈ ds,x < B9):DigL w v ds:=by
 rcases h with ⟨rfl,he⟩ | ⟨g,tl,rfl,hm,hk⟩
 ·have : ds = [] := by simpa [ints] using he
  subst this
  exact ⟨none,0,rfl,zv _,by unfold maxLen; omega,DigAt.nil _ _⟩
 ·rw [zax] at hm ⊢
  refine ⟨_,_,rfl,Nat.le_add_right _ _,hm,hb,fun j u hu=>⟨_,rfl,hk.lt,?_⟩⟩
  have e:(⟨g,0,none⟩:Addr).add j=⟨g,j,none⟩:=by unfold Addr.add; by_cases hj:j=0 <;> simp [hj]
  rw [e]
  refine zav hk ?_
  have hj:=(zh.1 hu).1
  rw [List.getElem?_append_left (by rw [zax]; exact hj)]
  simp [ints,hu]
theorem nxt_grown {w wr w':World} {v:Value} (h:Nxt w wr) (hg:wr.grownBy w' v.ownBlock) (hn:∀ g,v.ownBlock=some g -> w.heap.size <= g):Nxt w w':=
 ⟨⟨hg.os.trans h.out.os,hg.tape.trans h.out.tape,hg.output.trans h.out.output,zo h.out.size hg.size,fun k hk=>(hg.block k (Nat.lt_of_lt_of_le hk h.out.size) (fun e=>by have:=hn k e.symm; omega)).trans (h.out.block k hk)⟩⟩
def DRetM (w:World) (n m:Nat) (e:Ending) (w':World):Prop:=∃ (ds:List Nat) (s:NV),e = .returned s.v/\DigL w' s.v ds/\Hid (dval ds=n)/\Hid (ds.length <= m)/\Nxt w w'
structure AInv (w wr:World) (xs ys l:List Nat) (v:Value) (i cy:Nat):Prop where
 len:l.length=i
 lt:∀ x ∈ l,x < B9
 val:dval l+B9 ^ i * cy=dval (xs.take i)+dval (ys.take i)
 cy1:cy <= 1
 fin:i <= max xs.length ys.length+1
 fin0:i=max xs.length ys.length+1 -> cy=0
 own:OwnI wr v (ints l)
 new:∀ g,v.ownBlock=some g -> w.heap.size <= g
 nxt:Nxt w wr
theorem znI {p q d nc cy i:Nat} {l xs ys:List Nat} (hl:dval l+B9 ^ i * cy=dval (xs.take i)+dval (ys.take i)) (hlen:l.length=i) (hq:q=dg xs i+dg ys i+cy) (hd:q % B9=d) (hc:q / B9=nc):
  dval (l ++ [d])+B9 ^ (i+1) * nc=dval (xs.take (i+1))+dval (ys.take (i+1)):=by
 rw [zaL,hlen,zaO,zaO]
 have h:=Nat.mod_add_div q B9
 rw [hd,hc] at h
 have e:B9 ^ (i+1) * nc=B9 ^ i * (B9 * nc):=by rw [Nat.pow_succ,Nat.mul_assoc]
 have e2:dval [d]=d:=by simp [dval]
 rw [e,e2]
 generalize B9 * nc=y at *
 have h3:B9 ^ i * d+B9 ^ i * y=B9 ^ i * dg xs i+B9 ^ i * dg ys i+B9 ^ i * cy:=by
  rw [<- Nat.mul_add,<- Nat.mul_add,<- Nat.mul_add,h,hq]
 omega
theorem AInv.step {w wr w9:World} {xs ys l:List Nat} {v v9:Value} {i cy p q d nc:Nat} (H:AInv w wr xs ys l v i cy) (ha:∀ x ∈ xs,x < B9) (hb:∀ x ∈ ys,x < B9) (hi:i < max xs.length ys.length ∨ 0 < cy)
  (hq:q=dg xs i+dg ys i+cy) (hd:q % B9=d) (hc:q / B9=nc) (ho:OwnI w9 v9 (ints l ++ [(d:Int)])) (hn:∀ g,v9.ownBlock=some g -> w.heap.size <= g) (hx:Nxt w w9):
  AInv w w9 xs ys (l ++ [d]) v9 (i+1) nc:=by
 have hq2:q < 2 * B9:=by
  have:=dg_lt ha i; have:=dg_lt hb i; have:=H.cy1
  unfold B9 at *; omega
 have hfin:i <= max xs.length ys.length:=by
  have:=H.fin; have:=H.fin0
  rcases hi with h | h <;> omega
 refine ⟨by rw [List.length_append,H.len]; rfl,?_,znI (p:=p) H.val H.len hq hd hc,?_,by omega,?_,by rw [zb1]; exact ho,hn,hx⟩
 ·intro x hx
  rcases List.mem_append.1 hx with h | h
  ·exact H.lt x h
  ·rw [List.mem_singleton.1 h,<- hd]; exact Nat.mod_lt _ zaC
 ·rw [<- hc]
  have:=(Nat.div_lt_iff_lt_mul zaC (x:=q) (y:=2)).2 hq2
  omega
 ·intro he
  have e1:max xs.length ys.length=i:=by omega
  have h1:dg xs i=0:=zeq (by rw [<- e1]; exact Nat.le_max_left _ _)
  have h2:dg ys i=0:=zeq (by rw [<- e1]; exact Nat.le_max_right _ _)
  rw [<- hc,hq,h1,h2]
  have:=H.cy1
  exact Nat.div_eq_of_lt (by unfold B9; omega)
theorem AInv.done {w wr:World} {xs ys l:List Nat} {v:Value} {i:Nat} (H:AInv w wr xs ys l v i 0) (h1:xs.length <= i) (h2:ys.length <= i):dval l=dval xs+dval ys:=by
 have:=H.val
 rwa [Nat.mul_zero,Nat.add_zero,List.take_of_length_le h1,List.take_of_length_le h2] at this
theorem rem9 {q d:Nat} (h:q % B9=d):Int.tmod (q:Int) 1000000000=(d:Int)/\(q:Int) % 1000000000=(d:Int)/\IntKind.i64.wrap (d:Int)=(d:Int):=by
 have h2:(q:Int) % 1000000000=(d:Int):=by rw [<- h]; unfold B9; omega
 refine ⟨by rw [Int.tmod_eq_emod_of_nonneg (by omega)]; exact h2,h2,?_⟩
 rw [zx]; omega
theorem quo9 {q d:Nat} (h:q / B9=d) (hq:q < 2 ^ 62):Int.tdiv (q:Int) 1000000000=(d:Int)/\(q:Int) / 1000000000=(d:Int)/\IntKind.i64.wrap (d:Int)=(d:Int):=by
 have h2:(q:Int) / 1000000000=(d:Int):=by rw [<- h]; unfold B9; omega
 refine ⟨by rw [Int.tdiv_eq_ediv_of_nonneg (by omega)]; exact h2,h2,?_⟩
 have:d <= q:=by rw [<- h]; exact Nat.div_le_self _ _
 rw [zx]; omega
theorem zcJ {n:Nat} (h:n < 2 ^ 62):IntKind.i64.wrap (n:Int)=(n:Int):=by rw [zx]; omega
theorem zbe {a b c:Nat} (h:a+b=c) (hc:c < 2 ^ 62):IntKind.i64.wrap ((a:Int)+(b:Int))=(c:Int):=by rw [zx]; omega
theorem zf1 {v1 v2:Value} {xs ys:List Nat} {w:World} [h1:DigL w v1 xs] [h2:DigL w v2 ys] (l1:xs.length <= 2 ^ 28) (l2:ys.length <= 2 ^ 28):
  Calls Tryz.prog 209 #[v1,v2] w (DRetM w (dval xs+dval ys) (max xs.length ys.length+1)):=by
 obtain ⟨⟨A1,n1,c1⟩,rfl,_⟩:=h1.form
 obtain ⟨⟨A2,n2,c2⟩,rfl,_⟩:=h2.form
 have E1:Hid (xs.length=n1):=zc h1.at_.1
 have E2:Hid (ys.length=n2):=zc h2.at_.1
 have F1:Hid (∀ x ∈ xs,x < B9):=zc h1.at_.2.2.2.lt
 have F2:Hid (∀ x ∈ ys,x < B9):=zc h2.at_.2.2.2.lt
 have L1:=zc l1; have L2:=zc l2
 clear l1 l2
 go_enter Tryz.func209,Tryz.ntmps209
 go_wp2_with fail
 go_loopg [5,6,7] (max n1 n2+1) (fun gk s5 s6 s7 wr=>∃ (i cy:Nat) (l:List Nat) (A:Option Addr) (k c:Nat),gk=max n1 n2+1 - i/\s5 = .slice A k c/\s6 = .int .i64 (cy:Int)/\s7 = .int .i64 (i:Int)/\AInv w wr xs ys l (.slice A k c) i cy)
 case atStart=>exact ⟨0,0,[],none,0,0,rfl,rfl,rfl,rfl,⟨rfl,by simp,by simp [dval],by omega,by omega,by omega,.inl ⟨rfl,rfl⟩,fun g hg=>(by cases hg),zaa⟩⟩
 case round=>
  obtain ⟨i,cy,l,A,k,c,rfl,rfl,rfl,rfl,hI⟩:=hrel
  have HI:=zc hI
  have hcy:=hI.cy1
  have hfin:=hI.fin
  have hx:=hI.nxt
  clear hI
  by_cases hgo:i < max n1 n2 ∨ 0 < cy
  ·obtain ⟨x, hxx⟩ : ∃ x, dg xs i = x := ⟨_, rfl⟩
   obtain ⟨y,hyy⟩:∃ y,dg ys i=y:=⟨_,rfl⟩
   have hxl:x < B9:=by rw [<- hxx]; exact dg_lt F1.out i
   have hyl:y < B9:=by rw [<- hyy]; exact dg_lt F2.out i
   obtain ⟨p,hp⟩:∃ p,x+y=p:=⟨_,rfl⟩
   obtain ⟨q,hq⟩:∃ q,p+cy=q:=⟨_,rfl⟩
   have hqs:q < 2 ^ 62:=by unfold B9 at hxl hyl; omega
   have hps:p < 2 ^ 62:=by omega
   obtain ⟨d,hd⟩:∃ d,q % B9=d:=⟨_,rfl⟩
   obtain ⟨nc,hnc⟩:∃ nc,q / B9=nc:=⟨_,rfl⟩
   have a1:=zbe hp hps
   have a2:=zbe hq hqs
   obtain ⟨r1,r2,r3⟩:=rem9 hd
   obtain ⟨t1,t2,t3⟩:=quo9 hnc hqs
   have hil:i <= 2 ^ 28+1:=by have:=E1.out; have:=E2.out; have:=L1.out; have:=L2.out; omega
   have hadd:IntKind.i64.wrap ((i:Int)+1)=((i+1:Nat):Int):=by rw [zx]; omega
   have hlen:l.length=i:=HI.out.len
   have HM:Hid (max n1 n2+1 - (i+1) < max n1 n2+1 - i):=by
    have h1:=HI.out.fin; have h2:=HI.out.fin0
    rw [E1.out,E2.out] at h1 h2
    generalize max n1 n2=M at *
    show _ < _
    omega
   have HQ:Hid (q=dg xs i+dg ys i+cy):=zc (by omega)
   have HD:=zc hd; have HNC:=zc hnc; have HGO:=zc hgo; have HIL:=zc hil; have HLEN:=zc hlen
   have HX:=zc hxx; have HY:=zc hyy
   clear hd hnc hp hq hps hqs hxl hyl hlen hxx hyy
   have hg1:i < n1 ∨ (¬ i < n1/\i < n2) ∨ (¬ i < n1/\¬ i < n2/\0 < cy):=by omega
   rcases hg1 with hg1 | ⟨hg1,hg2⟩ | ⟨hg1,hg2,hg3⟩
   all_goals clear hgo
   all_goals go_wp2_with fail
   all_goals refine zf (zjk (ds:=xs) i (by have:=HIL.out; omega)) ?_
   all_goals rintro e wd ⟨rfl,rfl⟩
   all_goals rw [HX.out]
   all_goals go_wp2_with fail
   all_goals refine zf (zjk (ds:=ys) i (by have:=HIL.out; omega)) ?_
   all_goals rintro e wd ⟨rfl,rfl⟩
   all_goals rw [HY.out]
   all_goals have hc8:(wr.alloc (.cells #[.int .i64 (d:Int)] 3)).cell? ⟨wr.heap.size,0,none⟩=some (.int .i64 (d:Int)):=World.cell?_alloc_new _ _ _ _
   all_goals have hx8:Nxt wr (wr.alloc (.cells #[.int .i64 (d:Int)] 3)):=zaa
   all_goals have HO:=zc (HI.out.own.nxt hx8)
   all_goals have HC8:=zc hc8
   all_goals have HX8:Hid (Nxt w (wr.alloc (.cells #[.int .i64 (d:Int)] 3))):=zc zaa
   all_goals clear hc8 hx8
   all_goals go_upto_region 8 with (at_builtin; refine zam rfl (.tmp 34) (.tmp 37) rfl (.slice A k c) (ints l) rfl HO.out ⟨wr.heap.size,0,none⟩ 1 (d:Int) rfl HC8.out (by rw [zax]; have:=HLEN.out; have:=HIL.out; omega) ?_; intro v9 w9 ho9 hg9 hob9; obtain ⟨A9,n9,c9,rfl,hn9⟩:=ho9.form2; clear hn9)
   all_goals have HR:=zc (HI.out.step (p:=p) (w9:=w9) F1.out F2.out (by rw [E1.out,E2.out]; exact HGO.out) HQ.out HD.out HNC.out ho9 (fun g hg=>by rcases hob9 g hg with h | h; exact HI.out.new g h; exact zo (by have:=HI.out.nxt.out.size; simp; omega) h) (nxt_grown HX8.out hg9 (fun g hg=>HI.out.new g hg)))
   all_goals clear ho9 hg9 hob9
   all_goals go_wp2_with fail
   all_goals go_roundg (max n1 n2+1 - (i+1))
   all_goals first
    | exact ⟨i+1,nc,l ++ [d],A9,n9,c9,rfl,rfl,rfl,rfl,HR.out⟩
    | exact HM.out
  ·have hg1 : ¬ i < n1 := by omega
   have hg2:¬ i < n2:=by omega
   obtain rfl:cy=0:=by omega
   go_wp2_with fail
   go_ret
   exact ⟨l,⟨A,k,c⟩,rfl,HI.out.own.dig HI.out.lt,HI.out.done (by rw [E1.out]; omega) (by rw [E2.out]; omega),by show l.length <= _; rw [HI.out.len,E1.out,E2.out]; have:=HI.out.fin; rw [E1.out,E2.out] at this; omega,HI.out.nxt⟩
end
section
open Go.RowKit
structure SubInv (w wr:World) (xs ys l:List Nat) (v:Value) (i bw:Nat):Prop where
 len:l.length=i
 lt:∀ x ∈ l,x < B9
 val:dval l+dval (ys.take i)=dval (xs.take i)+B9 ^ i * bw
 bw1:bw <= 1
 fin:i <= xs.length
 own:OwnI wr v (ints l)
 new:∀ g,v.ownBlock=some g -> w.heap.size <= g
 nxt:Nxt w wr
theorem zmN {d nb bw i:Nat} {l xs ys:List Nat} (hl:dval l+dval (ys.take i)=dval (xs.take i)+B9 ^ i * bw) (hlen:l.length=i) (hd:d+dg ys i+bw=dg xs i+B9 * nb):
  dval (l ++ [d])+dval (ys.take (i+1))=dval (xs.take (i+1))+B9 ^ (i+1) * nb:=by
 rw [zaL,hlen,zaO,zaO]
 have e:B9 ^ (i+1) * nb=B9 ^ i * (B9 * nb):=by rw [Nat.pow_succ,Nat.mul_assoc]
 have e2:dval [d]=d:=by simp [dval]
 rw [e,e2]
 generalize B9 * nb=y at *
 have h3:B9 ^ i * d+B9 ^ i * dg ys i+B9 ^ i * bw=B9 ^ i * dg xs i+B9 ^ i * y:=by
  rw [<- Nat.mul_add,<- Nat.mul_add,<- Nat.mul_add,hd]
 omega
theorem SubInv.step {w wr w9:World} {xs ys l:List Nat} {v v9:Value} {i bw d nb:Nat} (H:SubInv w wr xs ys l v i bw) (hi:i < xs.length) (hdl:d < B9) (hnb:nb <= 1)
  (hd:d+dg ys i+bw=dg xs i+B9 * nb) (ho:OwnI w9 v9 (ints l ++ [(d:Int)])) (hn:∀ g,v9.ownBlock=some g -> w.heap.size <= g) (hx:Nxt w w9):
  SubInv w w9 xs ys (l ++ [d]) v9 (i+1) nb:=by
 refine ⟨by rw [List.length_append,H.len]; rfl,?_,zmN H.val H.len hd,hnb,by omega,by rw [zb1]; exact ho,hn,hx⟩
 intro x hx
 rcases List.mem_append.1 hx with h | h
 ·exact H.lt x h
 ·rw [List.mem_singleton.1 h]; exact hdl
theorem SubInv.done {w wr:World} {xs ys l:List Nat} {v:Value} {bw:Nat} (H:SubInv w wr xs ys l v xs.length bw) (hle:dval ys <= dval xs) (hl:ys.length <= xs.length):dval l=dval xs - dval ys:=by
 have h:=H.val
 rw [List.take_of_length_le hl,List.take_of_length_le (zv _)] at h
 have h2:=zc0 l H.lt
 rw [H.len] at h2
 have:=H.bw1
 rcases (show bw=0 ∨ bw=1 by omega) with rfl | rfl
 ·omega
 ·omega
theorem zja {a z:Int} (h:a=z) (h1 : -(2 ^ 62:Int) <= z) (h2:z < 2 ^ 62):IntKind.i64.wrap a=z:=by rw [zx]; omega
theorem zj6 {v:Value} {ds:List Nat} {w:World} [h:DigL w v ds] (i:Nat) (hi:i < 2 ^ 60) {y:Nat} (hy:dg ds i=y):
  Calls Tryz.prog 242 #[v,.int .i64 (i:Int)] w (fun e w'=>e = .returned (.int .i64 (y:Int))/\w'=w):=by
 subst hy
 exact (zjk i hi).mono fun _ _ h=>⟨h.1,h.2.symm⟩
theorem zfc {v1 v2:Value} {a b:Nat} {w:World} [h1:DigIs w v1 a] [h2:DigIs w v2 b] (l1:dl a <= 2 ^ 28) (hle:b <= a):
  Calls Tryz.prog 211 #[v1,v2] w (DRetN w (a - b)):=by
 have hd1:DigL w v1 (digs a):=h1.list
 have hd2:DigL w v2 (digs b):=h2.list
 have HE:Hid (dval (digs a)=a/\dval (digs b)=b/\dl b <= dl a):=zc ⟨zai a,zai b,zep hle⟩
 have L1:Hid ((digs a).length <= 2 ^ 28):=zc l1
 have HLE:=zc hle
 have HLL:Hid ((digs b).length <= (digs a).length):=zc HE.out.2.2
 clear l1 h1 h2 hle
 generalize digs a=xs at *
 generalize digs b=ys at *
 obtain ⟨⟨A1,n1,c1⟩,rfl,_⟩:=hd1.form
 obtain ⟨⟨A2,n2,c2⟩,rfl,_⟩:=hd2.form
 have E1:Hid (xs.length=n1):=zc hd1.at_.1
 have E2:Hid (ys.length=n2):=zc hd2.at_.1
 have F1:=zc hd1.at_.2.2.2
 have F2:Hid (∀ x ∈ ys,x < B9):=zc hd2.at_.2.2.2.lt
 go_enter Tryz.func211,Tryz.ntmps211
 go_wp2_with fail
 go_loopg [5,6,7] n1 (fun gk s5 s6 s7 wr=>∃ (i bw:Nat) (l:List Nat) (A:Option Addr) (k c:Nat),gk=n1 - i/\s5 = .slice A k c/\s6 = .int .i64 (bw:Int)/\s7 = .int .i64 (i:Int)/\SubInv w wr xs ys l (.slice A k c) i bw)
 case atStart=>exact ⟨0,0,[],none,0,0,rfl,rfl,rfl,rfl,⟨rfl,by simp,by simp [dval],by omega,by omega,.inl ⟨rfl,rfl⟩,fun g hg=>(by cases hg),zaa⟩⟩
 case round=>
  obtain ⟨i,bw,l,A,k,c,rfl,rfl,rfl,rfl,hI⟩:=hrel
  have HI:=zc hI
  have hbw:=hI.bw1
  have hx:=hI.nxt
  clear hI
  by_cases hin:i < n1
  ·have hlt : decide ((i : Int) < (n1 : Int)) = true := by simp; omega
   have hlt':(i:Int) < (n1:Int):=by omega
   obtain ⟨ad,x,e1,_,hcx,hxl,HX⟩:=F1.out.get (k:=i) (by rw [E1.out]; exact hin)
   subst e1
   have hc':wr.cell? (ad.add i)=some (.int .i64 (x:Int)):=by
    obtain ⟨ad2,e,hl2,hc2⟩:=F1.out.at_ i x HX.out
    injection e with e
    subst e
    exact (hx.out.cell (by rw [zaw]; exact hl2)).trans hc2
   obtain ⟨y,hyy⟩:∃ y,dg ys i=y:=⟨_,rfl⟩
   have hyl:y < B9:=by rw [<- hyy]; exact dg_lt F2.out i
   unfold B9 at hxl hyl
   obtain ⟨z1,hz1⟩:∃ z1:Int,(x:Int) - (y:Int)=z1:=⟨_,rfl⟩
   obtain ⟨z2,hz2⟩:∃ z2:Int,z1 - (bw:Int)=z2:=⟨_,rfl⟩
   have a1:IntKind.i64.wrap ((x:Int) - (y:Int))=z1:=zja hz1 (by omega) (by omega)
   have a2:IntKind.i64.wrap (z1 - (bw:Int))=z2:=zja hz2 (by omega) (by omega)
   have hil:i <= 2 ^ 28:=by have:=E1.out; have:=L1.out; omega
   have hadd:IntKind.i64.wrap ((i:Int)+1)=((i+1:Nat):Int):=by rw [zx]; omega
   have HIL:=zc hil; have HLEN:Hid (l.length=i):=zc HI.out.len
   have HX2:Hid (dg xs i=x):=zc (zbu HX.out)
   have HY:=zc hyy
   have HXC:=zc hcx
   have HIN:Hid (i < xs.length):=zc (by rw [E1.out]; exact hin)
   clear hcx hyy
   have main:∃ (d nb:Nat),d < B9/\nb <= 1/\d+y+bw=x+B9 * nb/\((z2 < 0/\nb=1/\IntKind.i64.wrap (z2+1000000000)=(d:Int)) ∨ (nb=0/\z2=(d:Int))):=by
    by_cases hn:z2 < 0
    ·refine ⟨(z2 + 1000000000).toNat, 1, by unfold B9; omega, by omega, by unfold B9; omega, .inl ⟨hn, rfl, ?_⟩⟩
     rw [zx]; omega
    ·exact ⟨z2.toNat,0,by unfold B9; omega,by omega,by unfold B9; omega,.inr ⟨rfl,by omega⟩⟩
   obtain ⟨d,nb,hdl,hnb,hdd,hcase⟩:=main
   have HST:Hid (∀ w9 v9,OwnI w9 v9 (ints l ++ [(d:Int)]) -> (∀ g,v9.ownBlock=some g -> w.heap.size <= g) -> Nxt w w9 -> SubInv w w9 xs ys (l ++ [d]) v9 (i+1) nb):=zc fun w9 v9 ho hn hx=>HI.out.step HIN.out hdl hnb (by rw [HX2.out,HY.out]; exact hdd) ho hn hx
   have HB:=zc hbw
   clear hdd hdl hnb hxl hyl hbw hz1 hz2
   rcases hcase with ⟨hn,rfl,hw⟩ | ⟨rfl,hz⟩
   ·have hneg : decide (z2 < 0) = true := by simp [hn]
    go_wp2_with fail
    go_quiet ((go_at_call 242; exact Calls.quiet_of_same (zj6 (ds:=ys) i (by have:=HIL.out; omega) HY.out)))
    have hxw:Nxt wr (wr.drewN nq):=zaa
    have HNW:Hid (Nxt w (wr.drewN nq)):=zc zaa
    have HO1:=zc (HI.out.own.nxt hxw)
    generalize wr.drewN nq=W at *
    have hc8:(W.alloc (.cells #[.int .i64 (d:Int)] 3)).cell? ⟨W.heap.size,0,none⟩=some (.int .i64 (d:Int)):=World.cell?_alloc_new _ _ _ _
    have hx8:Nxt W (W.alloc (.cells #[.int .i64 (d:Int)] 3)):=zaa
    have HO:=zc (HO1.out.nxt hx8)
    have HC8:=zc hc8
    have HX8:Hid (Nxt w (W.alloc (.cells #[.int .i64 (d:Int)] 3))):=zc ⟨HNW.out.out.trans (hx8.out.mono HNW.out.out.size)⟩
    clear hc8 hx8 hc'
    go_upto_region 5 with (at_builtin; refine zam rfl (.tmp 29) (.tmp 31) rfl (.slice A k c) (ints l) rfl HO.out ⟨W.heap.size,0,none⟩ 1 (d:Int) rfl HC8.out (by rw [zax]; have:=HLEN.out; have:=HIL.out; omega) ?_; intro v9 w9 ho9 hg9 hob9; obtain ⟨A9,n9,c9,rfl,hn9⟩:=ho9.form2; clear hn9)
    have HR:=zc (HST.out w9 _ ho9 (fun g hg=>by rcases hob9 g hg with h | h; exact HI.out.new g h; exact zo (by have:=HNW.out.out.size; simp; omega) h) (nxt_grown HX8.out hg9 (fun g hg=>HI.out.new g hg)))
    clear ho9 hg9 hob9
    go_wp2_with fail
    go_roundg (n1 - (i+1))
    case rel=>exact ⟨i+1,1,l ++ [d],A9,n9,c9,rfl,rfl,rfl,rfl,HR.out⟩
    case measure=>omega
   ·have hneg : decide (z2 < 0) = false := by simp; omega
    have hnn:¬ z2 < 0:=by omega
    subst hz
    go_wp2_with fail
    go_quiet ((go_at_call 242; exact Calls.quiet_of_same (zj6 (ds:=ys) i (by have:=HIL.out; omega) HY.out)))
    have hxw:Nxt wr (wr.drewN nq):=zaa
    have HNW:Hid (Nxt w (wr.drewN nq)):=zc zaa
    have HO1:=zc (HI.out.own.nxt hxw)
    generalize wr.drewN nq=W at *
    have hc8:(W.alloc (.cells #[.int .i64 (d:Int)] 3)).cell? ⟨W.heap.size,0,none⟩=some (.int .i64 (d:Int)):=World.cell?_alloc_new _ _ _ _
    have hx8:Nxt W (W.alloc (.cells #[.int .i64 (d:Int)] 3)):=zaa
    have HO:=zc (HO1.out.nxt hx8)
    have HC8:=zc hc8
    have HX8:Hid (Nxt w (W.alloc (.cells #[.int .i64 (d:Int)] 3))):=zc ⟨HNW.out.out.trans (hx8.out.mono HNW.out.out.size)⟩
    clear hc8 hx8 hc'
    go_upto_region 5 with (at_builtin; refine zam rfl (.tmp 29) (.tmp 31) rfl (.slice A k c) (ints l) rfl HO.out ⟨W.heap.size,0,none⟩ 1 (d:Int) rfl HC8.out (by rw [zax]; have:=HLEN.out; have:=HIL.out; omega) ?_; intro v9 w9 ho9 hg9 hob9; obtain ⟨A9,n9,c9,rfl,hn9⟩:=ho9.form2; clear hn9)
    have HR:=zc (HST.out w9 _ ho9 (fun g hg=>by rcases hob9 g hg with h | h; exact HI.out.new g h; exact zo (by have:=HNW.out.out.size; simp; omega) h) (nxt_grown HX8.out hg9 (fun g hg=>HI.out.new g hg)))
    clear ho9 hg9 hob9
    go_wp2_with fail
    go_roundg (n1 - (i+1))
    case rel=>exact ⟨i+1,0,l ++ [d],A9,n9,c9,rfl,rfl,rfl,rfl,HR.out⟩
    case measure=>omega
  ·have hlt : decide ((i : Int) < (n1 : Int)) = false := by simp; omega
   have hfin:=HI.out.fin
   obtain rfl:i=n1:=by have:=E1.out; omega
   have hdl:DigL wr (.slice A k c) l:=HI.out.own.dig HI.out.lt
   clear hfin
   go_wp2_with fail
   refine zf trim_c ?_
   rintro e w1 ⟨s,rfl,hd,hx1⟩
   go_wp2_with fail
   go_ret
   have hI:=HI.out
   rw [<- E1.out] at hI
   have e:dval l=a - b:=by
    have:=hI.done (by rw [HE.out.1,HE.out.2.1]; exact HLE.out) HLL.out
    rwa [HE.out.1,HE.out.2.1] at this
   exact ⟨s,rfl,by rw [<- e]; exact hd,zaa⟩
end
section
open Go.RowKit
theorem zeY {l:List Nat} {j o d:Nat} (h:l[j]?=some o):dval (l.set j d)+B9 ^ j * o=dval l+B9 ^ j * d:=by
 induction l generalizing j with
 | nil=>simp at h
 | cons x r ih=>
  cases j with
  | zero=>
   obtain rfl:x=o:=by simpa using h
   simp [dval]; omega
  | succ j=>
   have h':r[j]?=some o:=by simpa using h
   have:=ih h'
   simp only [List.set_cons_succ,dval]
   have e:∀ y,B9 ^ (j+1) * y=B9 * (B9 ^ j * y):=fun y=>by rw [Nat.pow_succ,zw (B9 ^ j),Nat.mul_assoc]
   rw [e,e]
   generalize B9 ^ j * o=p at *
   generalize B9 ^ j * d=q at *
   have h2:B9 * (dval (r.set j d)+p)=B9 * (dval r+q):=by rw [this]
   rw [Nat.mul_add,Nat.mul_add] at h2
   omega
structure MulI (w wr:World) (g:Nat) (xs ys l:List Nat) (i:Nat):Prop where
 len:l.length=xs.length+ys.length
 lt:∀ x ∈ l,x < B9
 val:dval l=dval (xs.take i) * dval ys
 zero:∀ j,i+ys.length <= j -> j < l.length -> l[j]?=some 0
 blk:Blk wr g 3 (zae (ints l))
 nxt:Nxt w wr
structure MulK (w wr:World) (g:Nat) (xs ys l0 l:List Nat) (i k x cy:Nat):Prop where
 len:l.length=xs.length+ys.length
 lt:∀ x ∈ l,x < B9
 val:dval l+B9 ^ (i+k) * cy=dval l0+B9 ^ i * (x * dval (ys.take k))
 same:∀ j,i+k <= j -> l[j]?=l0[j]?
 cy:cy < B9
 blk:Blk wr g 3 (zae (ints l))
 nxt:Nxt w wr
theorem ints_set (l:List Nat) (j x:Nat):(ints l).set j (x:Int)=ints (l.set j x):=by simp [ints,List.map_set]
theorem zfi {l:List Nat} {j x:Nat} (h:∀ y ∈ l,y < B9) (hx:x < B9):∀ y ∈ l.set j x,y < B9:=fun y hy=>by
 rcases List.mem_or_eq_of_mem_set hy with h1 | h1
 ·exact h y h1
 ·rw [h1]; exact hx
theorem zbZ {l:List Nat} {j x:Nat} (h:l[j]?=some x):(ints l)[j]?=some (x:Int):=by simp [ints,h]
theorem zfy {o x y cy:Nat} (h1:o < B9) (h2:x < B9) (h3:y < B9) (h4:cy < B9):o+x * y+cy < B9 * B9:=by
 have h:x * y <= (B9 - 1) * (B9 - 1):=Nat.mul_le_mul (by omega) (by omega)
 unfold B9 at *; omega
theorem MulK.step {w wr W:World} {g:Nat} {xs ys l0 l:List Nat} {i k x cy o y s d nc:Nat} (H:MulK w wr g xs ys l0 l i k x cy) (ho:l[i+k]?=some o) (hy:ys[k]?=some y) (hx:x < B9) (hyl:y < B9)
  (hs:o+x * y+cy=s) (hd:s % B9=d) (hc:s / B9=nc) (hb:Blk W g 3 (zae (ints (l.set (i+k) d)))) (hn:Nxt w W):MulK w W g xs ys l0 (l.set (i+k) d) i (k+1) x nc:=by
 have hol:=H.lt o (zk ho)
 have hsb:=zfy hol hx hyl H.cy
 rw [hs] at hsb
 refine ⟨by rw [List.length_set]; exact H.len,zfi H.lt (by rw [<- hd]; exact Nat.mod_lt _ zaC),?_,?_,by rw [<- hc]; exact Nat.div_lt_of_lt_mul hsb,hb,hn⟩
 ·have h1 := zeY (d := d) ho
  have h2:=H.val
  have h3:d+B9 * nc=s:=by rw [<- hd,<- hc]; exact Nat.mod_add_div _ _
  rw [zaO,zbu hy,Nat.mul_add,Nat.mul_add]
  have e1:B9 ^ (i+(k+1)) * nc=B9 ^ (i+k) * (B9 * nc):=by rw [<- Nat.add_assoc]; rw [Nat.pow_succ,Nat.mul_assoc]
  have e2:B9 ^ i * (x * (B9 ^ k * y))=B9 ^ (i+k) * (x * y):=by
   rw [Nat.pow_add,Nat.mul_assoc]; congr 1
   rw [<- Nat.mul_assoc,zw x,Nat.mul_assoc]
  rw [e1,e2]
  have h4:B9 ^ (i+k) * d+B9 ^ (i+k) * (B9 * nc)=B9 ^ (i+k) * o+B9 ^ (i+k) * (x * y)+B9 ^ (i+k) * cy:=by
   rw [<- Nat.mul_add,<- Nat.mul_add,<- Nat.mul_add,h3,hs]
  omega
 ·intro j hj
  rw [List.getElem?_set_ne (by omega)]
  exact H.same j (by omega)
theorem MulK.done {w wr W:World} {g:Nat} {xs ys l0 l:List Nat} {i x cy:Nat} (H:MulK w wr g xs ys l0 l i ys.length x cy) (hI:dval l0=dval (xs.take i) * dval ys) (hz:∀ j,i+ys.length <= j -> j < l0.length -> l0[j]?=some 0) (hl0:l0.length=xs.length+ys.length) (hxi:xs[i]?=some x)
  (hb:Blk W g 3 (zae (ints (l.set (i+ys.length) cy)))) (hn:Nxt w W):MulI w W g xs ys (l.set (i+ys.length) cy) (i+1):=by
 have hi:=(zh.1 hxi).1
 have h0:l[i+ys.length]?=some 0:=by rw [H.same _ (zv _)]; exact hz _ (zv _) (by omega)
 refine ⟨by rw [List.length_set]; exact H.len,zfi H.lt H.cy,?_,?_,hb,hn⟩
 ·have h1 := zeY (d := cy) h0
  have h2:=H.val
  rw [List.take_of_length_le (zv _)] at h2
  rw [zaO,zbu hxi,Nat.add_mul,<- hI,Nat.mul_assoc,<- h2]
  omega
 ·intro j hj hjl
  rw [List.length_set] at hjl
  rw [List.getElem?_set_ne (by omega),H.same j (by omega)]
  exact hz j (by omega) (by rw [hl0,<- H.len]; exact hjl)
theorem zdw {v1 v2:Value} {xs ys:List Nat} {w:World} [h1:DigL w v1 xs] [h2:DigL w v2 ys] (l1:xs.length <= 2 ^ 28) (l2:ys.length <= 2 ^ 28):
  Calls Tryz.prog 212 #[v1,v2] w (DRetN w (dval xs * dval ys)):=by
 obtain ⟨⟨A1,n1,c1⟩,rfl,_⟩:=h1.form
 obtain ⟨⟨A2,n2,c2⟩,rfl,_⟩:=h2.form
 have E1:Hid (xs.length=n1):=zc h1.at_.1
 have E2:Hid (ys.length=n2):=zc h2.at_.1
 have F1:=zc h1.at_.2.2.2
 have F2:=zc h2.at_.2.2.2
 have L1:=zc l1; have L2:=zc l2
 obtain ⟨n,hn⟩:∃ n,n1+n2=n:=⟨_,rfl⟩
 have hnl:n <= 2 ^ 29:=by have:=E1.out; have:=E2.out; omega
 have hsum:IntKind.i64.wrap ((n1:Int)+(n2:Int))=(n:Int):=zbe hn (by omega)
 have hmk:∀ w,(Instr.makeSlice 91 (.int .i64 (n:Int)) (.int .i64 (n:Int))).run Tryz.prog w = .ok (.slice (some ⟨w.heap.size,0,none⟩) n n) (w.alloc (.cells (zae (List.replicate n 0)) 3)):=zdc n (by omega)
 have HN:=zc hn; have HNL:=zc hnl
 clear l1 l2 hn hnl
 go_enter Tryz.func212,Tryz.ntmps212
 go_wp2_with fail
 have h0:Blk (w.alloc (.cells (zae (List.replicate n 0)) 3)) w.heap.size 3 (zae (ints (List.replicate n 0))):=by
  have e:ints (List.replicate n 0)=List.replicate n (0:Int):=by simp [ints]
  rw [e]; exact Blk.new
 have hb0:Nxt w (w.alloc (.cells (zae (List.replicate n 0)) 3)):=zaa
 generalize w.alloc (.cells (zae (List.replicate n 0)) 3)=W0 at *
 have H0:=zc h0; have HB0:=zc hb0
 clear h0 hb0 hmk
 go_loopg [6] n1 (fun gk s6 wr=>∃ (i:Nat) (l:List Nat),i <= n1/\gk=n1 - i/\s6 = .int .i64 (i:Int)/\MulI w wr w.heap.size xs ys l i)
 case atStart=>
  refine ⟨0,List.replicate n 0,Nat.zero_le _,rfl,rfl,⟨by rw [List.length_replicate,E1.out,E2.out,HN.out],?_,?_,?_,H0.out,HB0.out⟩⟩
  ·intro x hx; rw [List.eq_of_mem_replicate hx]; exact zaC
  ·rw [List.take_zero]
   have:∀ m,dval (List.replicate m 0)=0:=by intro m; induction m with | zero=>rfl | succ m ih=>rw [List.replicate_succ,dval,ih]; rfl
   rw [this]; simp [dval]
  ·intro j _ hj; rw [List.length_replicate] at hj; simp [hj]
 case round=>
  obtain ⟨i,l0,hi,rfl,rfl,hI⟩:=hrel
  have HI:=zc hI
  have hx0:=hI.nxt
  have hk0:=hI.blk
  clear hI
  by_cases hin:i < n1
  ·have hlt : decide ((i : Int) < (n1 : Int)) = true := by simp; omega
   have hlt':(i:Int) < (n1:Int):=by omega
   have hadd:IntKind.i64.wrap ((i:Int)+1)=((i+1:Nat):Int):=by have:=HNL.out; have:=HN.out; rw [zx]; omega
   obtain ⟨ad,x,e1,_,hcx,hxl,HX⟩:=F1.out.get (k:=i) (by rw [E1.out]; exact hin)
   subst e1
   have HXC:Hid (∀ wq,Nxt w wq -> wq.cell? (ad.add i)=some (.int .i64 (x:Int))):=zc fun wq hx=>by
    obtain ⟨ad2,e,hl2,hc2⟩:=F1.out.at_ i x HX.out
    injection e with e
    subst e
    exact (hx.out.cell (by rw [zaw]; exact hl2)).trans hc2
   obtain ⟨ik,hik⟩:∃ ik,i+n2=ik:=⟨_,rfl⟩
   have hsi:IntKind.i64.wrap ((i:Int)+(n2:Int))=(ik:Int):=zbe hik (by have:=HNL.out; have:=HN.out; omega)
   have hikn:(ik:Int) < (n:Int):=by have:=HN.out; omega
   have HXL:=zc hxl; have HIK:=zc hik; have HI1:=zc hin
   clear hcx hxl hik
   go_wp2_with fail
   clear hk0 hx0
   go_loopg [7,8] n2 (fun gk s7 s8 wi=>∃ (k cy:Nat) (l:List Nat),k <= n2/\gk=n2 - k/\s7 = .int .i64 (cy:Int)/\s8 = .int .i64 (k:Int)/\MulK w wi w.heap.size xs ys l0 l i k x cy)
   case atStart=>exact ⟨0,0,l0,Nat.zero_le _,rfl,rfl,rfl,⟨HI.out.len,HI.out.lt,by simp [dval],fun _ _=>rfl,zaC,HI.out.blk,HI.out.nxt⟩⟩
   case round=>
    obtain ⟨k,cy,l,hk,rfl,rfl,rfl,hK⟩:=hrel
    have HK:=zc hK
    clear hK
    by_cases hkn:k < n2
    ·have hlt2 : decide ((k : Int) < (n2 : Int)) = true := by simp; omega
     have hlt2':(k:Int) < (n2:Int):=by omega
     have hadd2:IntKind.i64.wrap ((k:Int)+1)=((k+1:Nat):Int):=by have:=HNL.out; have:=HN.out; rw [zx]; omega
     obtain ⟨bd,y,e1,_,hcy,hyl,HY⟩:=F2.out.get (k:=k) (by rw [E2.out]; exact hkn)
     subst e1
     have HYC:Hid (∀ wq,Nxt w wq -> wq.cell? (bd.add k)=some (.int .i64 (y:Int))):=zc fun wq hx=>by
      obtain ⟨ad2,e,hl2,hc2⟩:=F2.out.at_ k y HY.out
      injection e with e
      subst e
      exact (hx.out.cell (by rw [zaw]; exact hl2)).trans hc2
     obtain ⟨j,hj⟩:∃ j,i+k=j:=⟨_,rfl⟩
     have hsj:IntKind.i64.wrap ((i:Int)+(k:Int))=(j:Int):=zbe hj (by have:=HNL.out; have:=HN.out; omega)
     have hjn:(j:Int) < (n:Int):=by have:=HN.out; omega
     obtain ⟨o,ho⟩:∃ o,l[i+k]?=some o:=⟨l[i+k]'(by rw [HK.out.len,E1.out,E2.out]; omega),zg _⟩
     have hol:o < B9:=HK.out.lt o (zk ho)
     obtain ⟨p,hp⟩:∃ p,x * y=p:=⟨_,rfl⟩
     obtain ⟨q,hq⟩:∃ q,o+p=q:=⟨_,rfl⟩
     obtain ⟨s,hs⟩:∃ s,q+cy=s:=⟨_,rfl⟩
     have hsb:=zfy hol HXL.out hyl HK.out.cy
     have hs2:s < 2 ^ 62:=by rw [<- hs,<- hq,<- hp]; unfold B9 at hsb; omega
     have m1:IntKind.i64.wrap ((x:Int) * (y:Int))=(p:Int):=by
      rw [<- hp,<- Int.natCast_mul]; exact zcJ (by omega)
     have m2:=zbe hq (by omega)
     have m3:=zbe hs hs2
     obtain ⟨d,hd⟩:∃ d,s % B9=d:=⟨_,rfl⟩
     obtain ⟨nc,hnc⟩:∃ nc,s / B9=nc:=⟨_,rfl⟩
     obtain ⟨r1,r2,r3⟩:=rem9 hd
     obtain ⟨t1,t2,t3⟩:=quo9 hnc hs2
     have HS:Hid (o+x * y+cy=s):=zc (by omega)
     have HO:=zc ho; have HD:=zc hd; have HNC:=zc hnc; have HJ:=zc hj; have HYL:=zc hyl; have HKN:=zc hkn
     have k1:wr.cell? ⟨w.heap.size,j,none⟩=some (.int .i64 (o:Int)):=by rw [<- hj]; exact zav HK.out.blk (zbZ ho)
     have k2:=HXC.out wr HK.out.nxt
     have k3:=HYC.out wr HK.out.nxt
     clear ho hd hnc hj hyl hol hp hq hs hsb hs2 hcy
     go_wp2_with fail
     go_quiet (fail)
     have hW:Blk (wr.drewN nq) w.heap.size 3 (zae (ints l)):=Blk.nxt (h:=zaa) (k:=HK.out.blk)
     have hN:Nxt w (wr.drewN nq):=by have:=HK.out.nxt; exact zaa
     clear k1 k2 k3
     generalize wr.drewN nq=W at *
     have k1:W.cell? ⟨w.heap.size,j,none⟩=some (.int .i64 (o:Int)):=by rw [<- HJ.out]; exact zav hW (zbZ HO.out)
     have k4:W.frozen? ⟨w.heap.size,j,none⟩=false:=Blk.frozen (k:=hW)
     have hs1:=zbs (i:=j) (x:=(d:Int)) hW
     rw [ints_set] at hs1
     have hN1:Nxt w (W.setCell ⟨w.heap.size,j,none⟩ (.int .i64 (d:Int))):=zaa
     have HST:=zc (HK.out.step (W:=W.setCell ⟨w.heap.size,j,none⟩ (.int .i64 (d:Int))) HO.out HY.out HXL.out HYL.out HS.out HD.out HNC.out (by rw [HJ.out]; exact hs1) hN1)
     rw [HJ.out] at HST
     clear hW hN hs1 hN1
     go_wp2_with fail
     go_roundg (n2 - (k+1))
     case rel=>exact ⟨k+1,nc,l.set j d,HKN.out,rfl,rfl,rfl,HST.out⟩
     case measure=>have:=HKN.out; omega
    ·have hlt2 : decide ((k : Int) < (n2 : Int)) = false := by simp; omega
     obtain rfl:k=n2:=by omega
     have hz:l[ik]?=some 0:=by
      rw [HK.out.same ik (by have:=HIK.out; omega)]
      exact HI.out.zero ik (by rw [E2.out]; have:=HIK.out; omega) (by rw [HI.out.len,E1.out,E2.out]; have:=HIK.out; have:=HI1.out; omega)
     have k1:wr.cell? ⟨w.heap.size,ik,none⟩=some (.int .i64 0):=zav HK.out.blk (zbZ hz)
     have k4:wr.frozen? ⟨w.heap.size,ik,none⟩=false:=Blk.frozen (k:=HK.out.blk)
     have m1:IntKind.i64.wrap ((0:Int)+(cy:Int))=(cy:Int):=by have:=HK.out.cy; unfold B9 at this; rw [zx]; omega
     have m1':IntKind.i64.wrap (cy:Int)=(cy:Int):=by have:=HK.out.cy; unfold B9 at this; rw [zx]; omega
     have hs1:=zbs (i:=ik) (x:=(cy:Int)) HK.out.blk
     rw [ints_set] at hs1
     have hx:=HK.out.nxt
     have hN1:Nxt w (wr.setCell ⟨w.heap.size,ik,none⟩ (.int .i64 (cy:Int))):=zaa
     have hKK:=HK.out
     rw [<- E2.out] at hKK
     have HST:=zc (hKK.done (W:=wr.setCell ⟨w.heap.size,ik,none⟩ (.int .i64 (cy:Int))) HI.out.val HI.out.zero HI.out.len HX.out (by rw [E2.out,HIK.out]; exact hs1) hN1)
     rw [E2.out,HIK.out] at HST
     clear hs1 hx hN1 hKK hz
     go_wp2_with fail
     go_roundg (n1 - (i+1))
     case rel=>exact ⟨i+1,l.set ik cy,HI1.out,rfl,rfl,HST.out⟩
     case measure=>have:=HI1.out; omega
  ·have hlt : decide ((i : Int) < (n1 : Int)) = false := by simp; omega
   obtain rfl:i=n1:=by omega
   have hdl:DigL wr (.slice (some ⟨w.heap.size,0,none⟩) n n) l0:=by
    have hl:l0.length=n:=by rw [HI.out.len,E1.out,E2.out,HN.out]
    refine ⟨some ⟨w.heap.size,0,none⟩,n,by rw [hl],by rw [hl]; exact zv _,by have:=HNL.out; unfold maxLen; omega,HI.out.lt,fun j u hu=>⟨_,rfl,hk0.lt,?_⟩⟩
    have e:(⟨w.heap.size,0,none⟩:Addr).add j=⟨w.heap.size,j,none⟩:=by unfold Addr.add; by_cases hj:j=0 <;> simp [hj]
    rw [e]
    exact zav hk0 (zbZ hu)
   go_wp2_with fail
   refine zf trim_c ?_
   rintro e w1 ⟨s,rfl,hd,hx1⟩
   go_wp2_with fail
   go_ret
   have e:dval l0=dval xs * dval ys:=by
    have:=HI.out.val
    rwa [List.take_of_length_le (by rw [E1.out]; exact zv _)] at this
   exact ⟨s,rfl,by rw [<- e]; exact hd,zaa⟩
end
section
open Go.RowKit
structure DivI (w wr:World) (g:Nat) (xs l:List Nat) (d k r:Nat):Prop where
 len:l.length=xs.length
 lt:∀ x ∈ l,x < B9
 val:dval (xs.drop k)=d * dval (l.drop k)+r
 rest:r < d
 blk:Blk wr g 3 (zae (ints l))
 nxt:Nxt w wr
theorem DivI.step {w wr W:World} {g:Nat} {xs l:List Nat} {d j r x s q nr:Nat} (H:DivI w wr g xs l d (j+1) r) (hx:xs[j]?=some x) (hxl:x < B9) (hs:r * B9+x=s) (hq:s / d=q) (hr:s % d=nr) (hd:0 < d)
  (hb:Blk W g 3 (zae (ints (l.set j q)))) (hn:Nxt w W):DivI w W g xs (l.set j q) d j nr/\q < B9:=by
 have hj:=(zh.1 hx).1
 have hjl:j < l.length:=by rw [H.len]; exact hj
 have hql:q < B9:=by
  rw [<- hq]
  apply Nat.div_lt_of_lt_mul
  have:(r+1) * B9 <= d * B9:=Nat.mul_le_mul_right _ H.rest
  rw [Nat.add_mul] at this
  omega
 refine ⟨⟨by rw [List.length_set]; exact H.len,zfi H.lt hql,?_,by rw [<- hr]; exact Nat.mod_lt _ hd,hb,hn⟩,hql⟩
 have e1:xs.drop j=x :: xs.drop (j+1):=by
  rw [List.drop_eq_getElem_cons hj,(zh.1 hx).2]
 have e2:(l.set j q).drop j=q :: l.drop (j+1):=by
  rw [List.drop_eq_getElem_cons (by simpa using hjl)]
  have e3:(l.set j q).drop (j+1)=l.drop (j+1):=by
   apply List.ext_getElem?
   intro i
   rw [List.getElem?_drop,List.getElem?_drop,List.getElem?_set_ne (by omega)]
  rw [e3]
  simp
 rw [e1,e2,dval,dval,H.val]
 have h3:d * q+nr=s:=by rw [<- hq,<- hr]; exact Nat.div_add_mod _ _
 rw [Nat.mul_add,Nat.mul_add]
 have e3:d * (B9 * dval (l.drop (j+1)))=B9 * (d * dval (l.drop (j+1))):=by rw [<- Nat.mul_assoc,<- Nat.mul_assoc,zw d]
 rw [e3]
 have e4:B9 * r=r * B9:=zw _ _
 omega
theorem zc8 {a b q:Nat} (h:a / b=q) (hq:q < 2 ^ 62):Int.tdiv (a:Int) (b:Int)=(q:Int)/\(a:Int) / (b:Int)=(q:Int)/\IntKind.i64.wrap (q:Int)=(q:Int):=by
 have h2:(a:Int) / (b:Int)=(q:Int):=by rw [<- h]; rfl
 refine ⟨by rw [Int.tdiv_eq_ediv_of_nonneg (by omega)]; exact h2,h2,zcJ hq⟩
theorem zeQ {a b q:Nat} (h:a % b=q) (hq:q < 2 ^ 62):Int.tmod (a:Int) (b:Int)=(q:Int)/\(a:Int) % (b:Int)=(q:Int)/\IntKind.i64.wrap (q:Int)=(q:Int):=by
 have h2:(a:Int) % (b:Int)=(q:Int):=by rw [<- h]; rfl
 refine ⟨by rw [Int.tmod_eq_emod_of_nonneg (by omega)]; exact h2,h2,zcJ hq⟩
theorem DigL.of_blk {w:World} {g n:Nat} {l:List Nat} (hk:Blk w g 3 (zae (ints l))) (hl:l.length=n) (hn:n <= 2 ^ 40) (hlt:∀ x ∈ l,x < B9):DigL w (.slice (some ⟨g,0,none⟩) n n) l:=by
 subst hl
 refine ⟨some ⟨g,0,none⟩,l.length,rfl,zv _,by unfold maxLen; omega,hlt,fun j u hu=>⟨_,rfl,hk.lt,?_⟩⟩
 have e:(⟨g,0,none⟩:Addr).add j=⟨g,j,none⟩:=by unfold Addr.add; by_cases hj:j=0 <;> simp [hj]
 rw [e]
 exact zav hk (zbZ hu)
theorem zgP {v:Value} {xs:List Nat} {d:Nat} {w:World} [h1:DigL w v xs] (l1:xs.length <= 2 ^ 28) (hd:0 < d) (hd9:d <= B9):
  Calls Tryz.prog 234 #[v,.int .i64 (d:Int)] w (fun e w'=>∃ s:NV,e = .returned (.tuple #[s.v,.int .i64 ((dval xs % d:Nat):Int)])/\DigIs w' s.v (dval xs / d)/\Nxt w w'):=by
 obtain ⟨⟨A1,n,c1⟩,rfl,_⟩:=h1.form
 have E1:Hid (xs.length=n):=zc h1.at_.1
 have F1:=zc h1.at_.2.2.2
 have hnl:n <= 2 ^ 28:=by have:=E1.out; omega
 have hmk:∀ w,(Instr.makeSlice 91 (.int .i64 (n:Int)) (.int .i64 (n:Int))).run Tryz.prog w = .ok (.slice (some ⟨w.heap.size,0,none⟩) n n) (w.alloc (.cells (zae (List.replicate n 0)) 3)):=zdc n (by omega)
 have HNL:=zc hnl; have HDP:=zc hd; have HD9:=zc hd9
 have hdz:((d:Int) == 0)=false:=by simp; omega
 have hdn:¬ d=0:=by omega
 obtain ⟨Q,hQ⟩:∃ Q,dval xs / d=Q:=⟨_,rfl⟩
 obtain ⟨R,hR⟩:∃ R,dval xs % d=R:=⟨_,rfl⟩
 rw [hQ,hR]
 have HQ:=zc hQ; have HR:=zc hR
 clear hQ hR
 have hn1:IntKind.i64.wrap ((n:Int) - 1)=(n:Int) - 1:=by rw [zx]; omega
 clear l1 hnl hd hd9
 go_enter Tryz.func234,Tryz.ntmps234
 go_wp2_with fail
 have h0:Blk (w.alloc (.cells (zae (List.replicate n 0)) 3)) w.heap.size 3 (zae (ints (List.replicate n 0))):=by
  have e:ints (List.replicate n 0)=List.replicate n (0:Int):=by simp [ints]
  rw [e]; exact Blk.new
 have hb0:Nxt w (w.alloc (.cells (zae (List.replicate n 0)) 3)):=zaa
 generalize w.alloc (.cells (zae (List.replicate n 0)) 3)=W0 at *
 have H0:=zc h0; have HB0:=zc hb0
 clear h0 hb0 hmk
 go_loopg [7,8] n (fun gk s7 s8 wr=>∃ (k r:Nat) (l:List Nat),k <= n/\gk=0+k/\s7 = .int .i64 (r:Int)/\s8 = .int .i64 ((k:Int) - 1)/\DivI w wr w.heap.size xs l d k r)
 case atStart=>
  refine ⟨n,0,List.replicate n 0,zv _,by omega,rfl,rfl,⟨by rw [List.length_replicate,E1.out],?_,?_,HDP.out,H0.out,HB0.out⟩⟩
  ·intro x hx; rw [List.eq_of_mem_replicate hx]; exact zaC
  ·rw [List.drop_of_length_le (by rw [E1.out]; exact zv _),List.drop_of_length_le (by simp)]; simp [dval]
 case round=>
  obtain ⟨k,r,l,hk,rfl,rfl,rfl,hI⟩:=hrel
  have HI:=zc hI
  clear hI
  by_cases h0:0 < k
  ·obtain ⟨j, rfl⟩ : ∃ j, k = j + 1 := ⟨k - 1, by omega⟩
   rw [show ((j+1:Nat):Int) - 1=(j:Int) by omega]
   have hge:decide ((0:Int) <= (j:Int))=true:=by simp
   have hsub:IntKind.i64.wrap ((j:Int) - 1)=(j:Int) - 1:=by have:=HNL.out; rw [zx]; omega
   have hjn:(j:Int) < (n:Int):=by omega
   obtain ⟨ad,x,e1,_,hcx,hxl,HX⟩:=F1.out.get (k:=j) (by rw [E1.out]; omega)
   subst e1
   have hx:=HI.out.nxt
   have k1:wr.cell? (ad.add j)=some (.int .i64 (x:Int)):=by
    obtain ⟨ad2,e,hl2,hc2⟩:=F1.out.at_ j x HX.out
    injection e with e
    subst e
    exact (hx.out.cell (by rw [zaw]; exact hl2)).trans hc2
   have hrd:r < d:=HI.out.rest
   obtain ⟨p,hp⟩:∃ p,r * B9=p:=⟨_,rfl⟩
   obtain ⟨s,hs⟩:∃ s,p+x=s:=⟨_,rfl⟩
   have hs2:s < 2 ^ 62:=by
    have h1:(r+1) * B9 <= B9 * B9:=Nat.mul_le_mul_right _ (by have:=HD9.out; omega)
    rw [Nat.add_mul] at h1
    unfold B9 at *
    omega
   have m1:IntKind.i64.wrap ((r:Int) * 1000000000)=(p:Int):=by
    have:(r:Int) * 1000000000=(p:Int):=by rw [<- hp]; unfold B9; omega
    rw [this]; exact zcJ (by omega)
   have m2:=zbe hs hs2
   obtain ⟨q,hq⟩:∃ q,s / d=q:=⟨_,rfl⟩
   obtain ⟨nr,hnr⟩:∃ nr,s % d=nr:=⟨_,rfl⟩
   obtain ⟨t1,t2,t3⟩:=zc8 hq (by rw [<- hq]; exact Nat.lt_of_le_of_lt (Nat.div_le_self _ _) hs2)
   obtain ⟨r1,r2,r3⟩:=zeQ hnr (by rw [<- hnr]; exact Nat.lt_of_le_of_lt (Nat.mod_le _ _) hs2)
   have k4:wr.frozen? ⟨w.heap.size,j,none⟩=false:=Blk.frozen (k:=HI.out.blk)
   have k5:∃ u,wr.cell? ⟨w.heap.size,j,none⟩=some u:=⟨_,zav HI.out.blk (zbZ (zg (show j < l.length by rw [HI.out.len,E1.out]; omega)))⟩
   obtain ⟨u5,k5⟩:=k5
   have hs1:=zbs (i:=j) (x:=(q:Int)) HI.out.blk
   rw [ints_set] at hs1
   have hN1:Nxt w (wr.setCell ⟨w.heap.size,j,none⟩ (.int .i64 (q:Int))):=zaa
   have HST:=zc (HI.out.step (W:=wr.setCell ⟨w.heap.size,j,none⟩ (.int .i64 (q:Int))) HX.out hxl (by rw [hp]; exact hs) hq hnr HDP.out hs1 hN1).1
   have HJ:Hid (j <= n):=zc (by omega)
   clear hs1 hN1 hp hs hs2 hq hnr hrd hxl hcx hx
   go_wp2_with fail
   go_roundg (0+j)
   case rel=>exact ⟨j,nr,l.set j q,HJ.out,rfl,rfl,rfl,HST.out⟩
   case measure=>omega
  ·obtain rfl : k = 0 := by omega
   have hge:decide ((0:Int) <= ((0:Nat):Int) - 1)=false:=by decide
   have hx:=HI.out.nxt
   have hdl:DigL wr (.slice (some ⟨w.heap.size,0,none⟩) n n) l:=DigL.of_blk HI.out.blk (by rw [HI.out.len,E1.out]) (by have:=HNL.out; omega) HI.out.lt
   have hv:=HI.out.val
   rw [List.drop_zero,List.drop_zero] at hv
   have e1:dval xs / d=dval l:=by
    rw [hv,Nat.mul_add_div HDP.out,Nat.div_eq_of_lt HI.out.rest,Nat.add_zero]
   have e2:dval xs % d=r:=by
    rw [hv,Nat.mul_add_mod,Nat.mod_eq_of_lt HI.out.rest]
   obtain rfl:Q=dval l:=by rw [<- HQ.out,e1]
   obtain rfl:R=r:=by rw [<- HR.out,e2]
   clear hv e1 e2
   go_wp2_with fail
   refine zf trim_c ?_
   rintro e w1 ⟨s,rfl,hd,hx1⟩
   go_wp2_with fail
   go_ret2
   exact ⟨s,rfl,hd,zaa⟩
end
section
open Go.RowKit
theorem zcB {w w':World} (h:Drew w w') (a:Addr):w'.cell? a=w.cell? a:=by
 obtain ⟨m,rfl⟩:=h
 rfl
def za5 (y1 y0 u d:Nat):Nat:=min (B9 - 1) ((u * B9+d) / (y1 * B9+y0))
structure G9 (y1 y0 u d q r:Nat):Prop where
 eq:q * y1+r=u
 ge:za5 y1 y0 u d <= q
theorem znf {y1 y0 u d:Nat} (h1:0 < y1) (hd:d < B9):G9 y1 y0 u d (u / y1) (u % y1):=by
 have g:=zid (y0:=y0) (u:=u) h1 hd
 exact ⟨g.eq,zo (Nat.min_le_right _ _) g.ge⟩
theorem zlY {y1 y0 u d q r:Nat} (he:q * y1+r=u):q * y0 > B9 * r+d ↔ q * (y1 * B9+y0) > u * B9+d:=by
 rw [<- he,Nat.mul_add,Nat.add_mul,Nat.mul_assoc,zw r B9]
 omega
theorem g9_next {y1 y0 u d q r:Nat} (g:G9 y1 y0 u d q r) (h0:0 < y1) (h:B9 <= q ∨ q * y0 > B9 * r+d):0 < q/\G9 y1 y0 u d (q - 1) (r+y1):=by
 have hY:0 < y1 * B9+y0:=by have:=Nat.mul_pos h0 zaC; omega
 have hq:za5 y1 y0 u d < q:=by
  unfold za5
  rcases h with h | h
  ·exact Nat.lt_of_le_of_lt (Nat.min_le_left _ _) (by have:=zaC; omega)
  ·refine Nat.lt_of_le_of_lt (Nat.min_le_right _ _) ?_
   rw [Nat.div_lt_iff_lt_mul hY]
   exact (zlY g.eq).1 h
 have hpos:0 < q:=Nat.lt_of_le_of_lt (Nat.zero_le _) hq
 refine ⟨hpos,?_,by omega⟩
 obtain ⟨p,rfl⟩:∃ p,q=p+1:=⟨q - 1,by omega⟩
 have:=g.eq
 rw [Nat.add_mul,Nat.one_mul] at this
 rw [Nat.add_sub_cancel]
 omega
theorem zn2 {y1 y0 u d q r:Nat} (g:G9 y1 y0 u d q r) (h0:0 < y1) (hq:q < B9) (h:¬ q * y0 > B9 * r+d):q=za5 y1 y0 u d:=by
 have hY:0 < y1 * B9+y0:=by have:=Nat.mul_pos h0 zaC; omega
 have h1:¬ q * (y1 * B9+y0) > u * B9+d:=fun h2=>h ((zlY g.eq).2 h2)
 have h2:q <= (u * B9+d) / (y1 * B9+y0):=by rw [Nat.le_div_iff_mul_le hY]; omega
 have h3:q <= za5 y1 y0 u d:=Nat.le_min.2 ⟨by omega,h2⟩
 have:=g.ge
 omega
theorem g9_big {y1 y0 u d q r:Nat} (g:G9 y1 y0 u d q r) (hu:u <= y1 * B9+y0) (hy0:y0 < B9) (hr:B9 <= r):q < B9/\¬ q * y0 > B9 * r+d:=by
 have he:=g.eq
 have hq:q < B9:=by
  rcases Nat.lt_or_ge q B9 with h | h
  ·exact h
  ·have : B9 * y1 <= q * y1 := Nat.mul_le_mul_right _ h
   rw [zw B9] at this
   omega
 refine ⟨hq,?_⟩
 have h1:q * y0 <= B9 * B9:=Nat.mul_le_mul (Nat.le_of_lt hq) (Nat.le_of_lt hy0)
 have h2:B9 * B9 <= B9 * r:=Nat.mul_le_mul_left _ hr
 omega
theorem g9_le {y1 y0 u d q r:Nat} (g:G9 y1 y0 u d q r) (hy1:B9 <= 2 * y1) (hy0:y0 < B9) (hu:u <= y1 * B9+y0):q <= B9+2:=by
 have he:=g.eq
 rcases Nat.lt_or_ge (B9+2) q with h | h
 ·have : (B9 + 3) * y1 <= q * y1 := Nat.mul_le_mul_right _ h
  rw [Nat.add_mul,zw B9] at this
  omega
 ·exact h
theorem guess_c {au av:Addr} {ku cu n cv j u2 u1 u0 y1 y0:Nat} {w:World} (hn:2 <= n) (hk:j+n < ku) (hkm:ku <= 2 ^ 40)
  (k2:w.cell? (au.add (j+n))=some (.int .i64 (u2:Int))) (k1:w.cell? (au.add (j+n - 1))=some (.int .i64 (u1:Int))) (k0:w.cell? (au.add (j+n - 2))=some (.int .i64 (u0:Int)))
  (c1:w.cell? (av.add (n - 1))=some (.int .i64 (y1:Int))) (c0:w.cell? (av.add (n - 2))=some (.int .i64 (y0:Int)))
  (b2:u2 < B9) (b1:u1 < B9) (b0:u0 < B9) (hy1:y1 < B9) (hy0:y0 < B9) (hnorm:B9 <= 2 * y1) (hle:u2 * B9+u1 <= y1 * B9+y0):
  Calls Tryz.prog 236 #[.slice (some au) ku cu,.slice (some av) n cv,.int .i64 (j:Int)] w (fun e w'=>e = .returned (.int .i64 (za5 y1 y0 (u2 * B9+u1) u0:Int))/\Drew w w'):=by
 obtain ⟨T,hT⟩:∃ T,za5 y1 y0 (u2 * B9+u1) u0=T:=⟨_,rfl⟩
 rw [hT]
 have HT:=zc hT
 obtain ⟨jn,hjn⟩:∃ jn,j+n=jn:=⟨_,rfl⟩
 obtain ⟨m1,hm1⟩:∃ m,jn - 1=m:=⟨_,rfl⟩
 obtain ⟨m2,hm2⟩:∃ m,jn - 2=m:=⟨_,rfl⟩
 obtain ⟨n1,hn1⟩:∃ m,n - 1=m:=⟨_,rfl⟩
 obtain ⟨n2,hn2⟩:∃ m,n - 2=m:=⟨_,rfl⟩
 rw [hjn] at k2 k1 k0
 rw [hm1] at k1; rw [hm2] at k0; rw [hn1] at c1; rw [hn2] at c0
 have w1:IntKind.i64.wrap ((j:Int)+(n:Int))=(jn:Int):=zbe hjn (by omega)
 have w2:IntKind.i64.wrap ((jn:Int) - 1)=(m1:Int):=by rw [zx]; omega
 have w3:IntKind.i64.wrap ((jn:Int) - 2)=(m2:Int):=by rw [zx]; omega
 have w4:IntKind.i64.wrap ((n:Int) - 1)=(n1:Int):=by rw [zx]; omega
 have w5:IntKind.i64.wrap ((n:Int) - 2)=(n2:Int):=by rw [zx]; omega
 have l1:(jn:Int) < (ku:Int):=by omega
 have l2:(m1:Int) < (ku:Int):=by omega
 have l3:(m2:Int) < (ku:Int):=by omega
 have l4:(n1:Int) < (n:Int):=by omega
 have l5:(n2:Int) < (n:Int):=by omega
 obtain ⟨p,hp⟩:∃ p,u2 * B9=p:=⟨_,rfl⟩
 obtain ⟨u,hu⟩:∃ u,p+u1=u:=⟨_,rfl⟩
 rw [hp,hu] at hle hT
 have hub:u < 2 ^ 62:=by
  have:u2 * B9 <= B9 * B9:=Nat.mul_le_mul_right _ (Nat.le_of_lt b2)
  unfold B9 at *; omega
 have s1:IntKind.i64.wrap ((u2:Int) * 1000000000)=(p:Int):=by
  have:(u2:Int) * 1000000000=(p:Int):=by rw [<- hp]; unfold B9; omega
  rw [this]; exact zcJ (by omega)
 have s2:=zbe hu hub
 have hyp:0 < y1:=by unfold B9 at hnorm; omega
 have hyz:¬ y1=0:=by omega
 obtain ⟨q0,hq0⟩:∃ q,u / y1=q:=⟨_,rfl⟩
 obtain ⟨r0,hr0⟩:∃ r,u % y1=r:=⟨_,rfl⟩
 obtain ⟨t1,t2,t3⟩:=zc8 hq0 (by rw [<- hq0]; exact Nat.lt_of_le_of_lt (Nat.div_le_self _ _) hub)
 obtain ⟨r1,r2,r3⟩:=zeQ hr0 (by rw [<- hr0]; exact Nat.lt_of_le_of_lt (Nat.mod_le _ _) hub)
 have hG:G9 y1 y0 u u0 q0 r0:=by rw [<- hq0,<- hr0]; exact znf hyp b0
 have hrb:r0 < B9:=by rw [<- hr0]; exact Nat.lt_trans (Nat.mod_lt _ hyp) hy1
 have HG:=zc hG; have HRB:=zc hrb; have HLE:=zc hle; have HY1:=zc hy1; have HY0:=zc hy0; have HN:=zc hnorm; have HB0:=zc b0; have HYP:=zc hyp
 have HT2:Hid (za5 y1 y0 u u0=T):=zc hT
 have HCS:Hid (∀ wq,Drew w wq -> wq.cell? (au.add m2)=some (.int .i64 (u0:Int))/\wq.cell? (av.add n1)=some (.int .i64 (y1:Int))/\wq.cell? (av.add n2)=some (.int .i64 (y0:Int))):=zc fun wq h=>⟨by rw [zcB h]; exact k0,by rw [zcB h]; exact c1,by rw [zcB h]; exact c0⟩
 clear hG hrb hle hy1 hy0 hnorm b0 hyp hT hq0 hr0 hub hp hu hjn hm1 hm2 hn1 hn2 b1 b2 hn hk hkm
 go_enter Tryz.func236,Tryz.ntmps236
 go_wp2_with fail
 go_quiet (fail)
 have hd1:Drew w (w.drewN nq):=⟨_,rfl⟩
 generalize w.drewN nq=W1 at *
 obtain ⟨e0,e1,e2⟩:=HCS.out W1 hd1
 clear k2 k1 k0 c1 c0
 go_wp2_with fail
 go_quiet (fail)
 have hd2:Drew w (W1.drewN nq):=hd1.more _
 clear hd1 e0 e1 e2
 generalize W1.drewN nq=W2 at *
 go_wp2_with fail
 go_loopw [9,10] (fun s9 s10 wr=>∃ q r:Nat,s9 = .int .i64 (q:Int)/\s10 = .int .i64 (r:Int)/\G9 y1 y0 u u0 q r/\r < B9/\Drew w wr) (fun s9 _ _=>(intOf s9).toNat)
 case atStart=>exact ⟨q0,r0,rfl,rfl,HG.out,HRB.out,hd2⟩
 case round=>
  obtain ⟨q,r,rfl,rfl,hG,hrb,hdr⟩:=hrel
  have hql:=g9_le hG HN.out HY0.out HLE.out
  obtain ⟨e0,e1,e2⟩:=HCS.out wr hdr
  obtain ⟨a,ha⟩:∃ a,q * y0=a:=⟨_,rfl⟩
  obtain ⟨b,hb⟩:∃ b,r * B9=b:=⟨_,rfl⟩
  obtain ⟨c,hc⟩:∃ c,b+u0=c:=⟨_,rfl⟩
  have hal:a < 2 ^ 62:=by
   have h1:q * y0 <= (B9+2) * B9:=Nat.mul_le_mul hql (Nat.le_of_lt HY0.out)
   unfold B9 at *; omega
  have hcl:c < 2 ^ 62:=by
   have h1:r * B9 <= B9 * B9:=Nat.mul_le_mul_right _ (Nat.le_of_lt hrb)
   have:=HB0.out
   unfold B9 at *; omega
  have x1:IntKind.i64.wrap ((q:Int) * (y0:Int))=(a:Int):=by
   rw [<- ha,<- Int.natCast_mul]; rw [ha]; exact zcJ hal
  have x2:IntKind.i64.wrap ((r:Int) * 1000000000)=(b:Int):=by
   have:(r:Int) * 1000000000=(b:Int):=by rw [<- hb]; unfold B9; omega
   rw [this]; exact zcJ (by omega)
  have x3:=zbe hc hcl
  have hcond:(c < a) ↔ q * y0 > B9 * r+u0:=by rw [<- hc,<- hb,<- ha,zw r B9]
  have HC:=zc hcond; have HGG:=zc hG; have HR:=zc hrb; have HD:=zc hdr; have HQL:=zc hql
  clear hcond ha hb hc hal hcl hG hrb hdr hql
  by_cases hgo:B9 <= q ∨ (¬ B9 <= q/\c < a)
  ·obtain ⟨hq0, hGn⟩ := g9_next HGG.out HYP.out (by rcases hgo with h | h; exact .inl h; exact .inr (HC.out.1 h.2))
   obtain ⟨qm,hqm⟩:∃ qm,q - 1=qm:=⟨_,rfl⟩
   obtain ⟨rn,hrn⟩:∃ rn,r+y1=rn:=⟨_,rfl⟩
   rw [hqm,hrn] at hGn
   have z1:IntKind.i64.wrap ((q:Int) - 1)=(qm:Int):=by have:=HQL.out; unfold B9 at this; rw [zx]; omega
   have z2:=zbe hrn (by have:=HR.out; have:=HY1.out; unfold B9 at *; omega)
   have HGN:=zc hGn; have HQM:Hid (qm < q):=zc (by omega)
   clear hGn hqm hrn hq0
   by_cases hrb:B9 <= rn
   ·have HRN := zc hrb
    have g2:decide ((1000000000:Int) <= (rn:Int))=true:=by unfold B9 at hrb; simp; omega
    clear hrb
    have hgo':(decide ((1000000000:Int) <= (q:Int))=true/\True) ∨ (decide ((1000000000:Int) <= (q:Int))=false/\c < a):=by
     unfold B9 at hgo
     rcases hgo with h | ⟨h,h'⟩
     ·exact .inl ⟨by simp; omega,trivial⟩
     ·exact .inr ⟨by simp; omega,h'⟩
    clear hgo
    rcases hgo' with ⟨g1,_⟩ | ⟨g1,hgo2⟩
    all_goals go_wp2_with fail
    all_goals go_quiet (fail)
    all_goals have hd3:Drew w (wr.drewN nq):=HD.out.more _
    all_goals generalize wr.drewN nq=W3 at *
    all_goals obtain ⟨f0,f1,f2⟩:=HCS.out W3 hd3
    all_goals go_wp2_with fail
    all_goals simp [bodyPost,results,Tryz.results236,go_sem]
    all_goals have hbig:=g9_big HGN.out HLE.out HY0.out HRN.out
    all_goals have hfin:=zn2 HGN.out HYP.out hbig.1 hbig.2
    all_goals exact ⟨by first | exact congrArg _ (hfin.trans HT2.out) | simp [hfin.trans HT2.out] | rw [hfin.trans HT2.out],hd3⟩
   ·have HRN := zc (show rn < B9 by omega)
    have g2:decide ((1000000000:Int) <= (rn:Int))=false:=by unfold B9 at hrb; simp; omega
    clear hrb
    have hgo':(decide ((1000000000:Int) <= (q:Int))=true/\True) ∨ (decide ((1000000000:Int) <= (q:Int))=false/\c < a):=by
     unfold B9 at hgo
     rcases hgo with h | ⟨h,h'⟩
     ·exact .inl ⟨by simp; omega,trivial⟩
     ·exact .inr ⟨by simp; omega,h'⟩
    clear hgo
    rcases hgo' with ⟨g1,_⟩ | ⟨g1,hgo2⟩
    all_goals go_wp2_with fail
    all_goals go_quiet (fail)
    all_goals have hd3:Drew w (wr.drewN nq):=HD.out.more _
    all_goals generalize wr.drewN nq=W3 at *
    all_goals obtain ⟨f0,f1,f2⟩:=HCS.out W3 hd3
    all_goals go_wp2_with fail
    all_goals go_roundw
    all_goals first
     | exact ⟨qm,rn,rfl,rfl,HGN.out,HRN.out,hd3⟩
     | (simp [intOf]; have:=HQM.out; omega)
  ·have h1 : ¬ B9 <= q := by omega
   have h2:¬ c < a:=by omega
   have g1:decide ((1000000000:Int) <= (q:Int))=false:=by unfold B9 at h1; simp; omega
   have HQB:Hid (q < B9):=zc (by omega)
   clear hgo h1
   go_wp2_with fail
   go_quiet (fail)
   have hd3:Drew w (wr.drewN nq):=HD.out.more _
   generalize wr.drewN nq=W3 at *
   go_wp2_with fail
   simp [bodyPost,results,Tryz.results236,go_sem]
   have hfin:=zn2 HGG.out HYP.out HQB.out (fun h=>h2 (HC.out.2 h))
   exact ⟨by first | exact congrArg _ (hfin.trans HT2.out) | simp [hfin.trans HT2.out] | rw [hfin.trans HT2.out],hd3⟩
end
theorem zaJ (l:List Nat) (i:Nat) (hi:i <= l.length):dval l=dval (l.take i)+B9 ^ i * dval (l.drop i):=by
 conv=>lhs; rw [<- List.take_append_drop i l,zaL]
 rw [List.length_take,Nat.min_eq_left hi]
theorem zat (l:List Nat) (i:Nat):dval (l.drop i)=dg l i+B9 * dval (l.drop (i+1)):=by
 rcases Nat.lt_or_ge i l.length with h | h
 ·rw [List.drop_eq_getElem_cons h,dval,zbu (zg h)]
 ·rw [zeq h,List.drop_of_length_le h,List.drop_of_length_le (by omega)]; rfl
theorem zbJ {l:List Nat} (h:∀ x ∈ l,x < B9) (i:Nat):dval (l.take i) < B9 ^ i:=by
 have h1:=zc0 (l.take i) (fun x hx=>h x (List.mem_of_mem_take hx))
 exact Nat.lt_of_lt_of_le h1 (zfr (by rw [List.length_take]; exact Nat.min_le_left _ _))
theorem drop_zero {l:List Nat} {n:Nat} (h:dval l < B9 ^ n) (hn:n <= l.length):dval (l.drop n)=0:=by
 rw [zaJ l n hn] at h
 rcases Nat.eq_zero_or_pos (dval (l.drop n)) with h0 | h0
 ·exact h0
 ·have : B9 ^ n * 1 <= B9 ^ n * dval (l.drop n) := Nat.mul_le_mul_left _ h0
  omega
theorem knuthB {B X S V sl vl u u0 y1 y0 t:Nat} (hB:0 < B) (ht1:t <= B - 1) (ht2:t <= (u * B+u0) / (y1 * B+y0)) (ht3:∀ m,m <= B - 1 -> m <= (u * B+u0) / (y1 * B+y0) -> m <= t) (hX:0 < X) (hS:S=sl+X * (u * B+u0)) (hV:V=vl+X * (y1 * B+y0)) (hsl:sl < X) (hvl:vl < X) (hu0:u0 < B) (hy:0 < y1) (hlt:S < B * V):
  u <= y1 * B+y0/\S / V <= t/\t <= S / V+1/\S / V < B/\t < B:=by
 have hY:0 < y1 * B+y0:=by have:=Nat.mul_pos hy hB; omega
 have hVp:0 < V:=by rw [hV]; have:=Nat.mul_pos hX hY; omega
 have hq:S / V < B:=by rw [Nat.div_lt_iff_lt_mul hVp]; exact hlt
 have hT:t < B:=by omega
 refine ⟨?_,?_,?_,hq,hT⟩
 ·generalize hYY : y1 * B + y0 = Y at *
  have h1:X * (u * B) < B * (X * (Y+1)):=by
   have e1:X * (u * B) <= S:=by rw [hS]; rw [Nat.mul_add]; omega
   have e2:B * V <= B * (X * (Y+1)):=Nat.mul_le_mul_left _ (by rw [hV,Nat.mul_add]; omega)
   omega
  have e3:X * (u * B)=(B * X) * u:=by rw [<- Nat.mul_assoc,zw (X * u),Nat.mul_assoc]
  have e4:B * (X * (Y+1))=(B * X) * (Y+1):=by rw [Nat.mul_assoc]
  rw [e3,e4] at h1
  have:=Nat.lt_of_mul_lt_mul_left h1
  omega
 ·refine ht3 _ (by omega) ?_
  rw [Nat.le_div_iff_mul_le hY]
  generalize hYY:y1 * B+y0=Y at *
  generalize hTT:u * B+u0=T3 at *
  have h1:S / V * V <= S:=Nat.div_mul_le_self _ _
  generalize S / V=q at *
  have h2:X * (q * Y) <= q * V:=by
   rw [hV,Nat.mul_add]
   have:X * (q * Y)=q * (X * Y):=by rw [<- Nat.mul_assoc,zw X q,Nat.mul_assoc]
   omega
  have h3:X * (q * Y) < X * (T3+1):=by rw [Nat.mul_add]; omega
  have:=Nat.lt_of_mul_lt_mul_left h3
  omega
 ·have hT3:t * (y1 * B+y0) <= u * B+u0:=by
   have:=ht2
   rwa [Nat.le_div_iff_mul_le hY] at this
  generalize hTT:u * B+u0=T3 at *
  have hXV:t * X <= V:=by
   have e1:t * X <= B * X:=Nat.mul_le_mul_right _ (Nat.le_of_lt hT)
   have e2:X * B <= X * (y1 * B+y0):=Nat.mul_le_mul_left _ (by have:1 * B <= y1 * B:=Nat.mul_le_mul_right _ hy; omega)
   rw [zw B X] at e1
   omega
  have h1:t * V <= S+t * X:=by
   have e1:t * V=t * vl+X * (t * (y1 * B+y0)):=by
    rw [hV,Nat.mul_add]; congr 1
    rw [<- Nat.mul_assoc,zw t X,Nat.mul_assoc]
   have e2:X * (t * (y1 * B+y0)) <= X * T3:=Nat.mul_le_mul_left _ hT3
   have e3:t * vl <= t * X:=Nat.mul_le_mul_left _ (Nat.le_of_lt hvl)
   omega
  rcases Nat.lt_or_ge (S / V+1) t with h | h
  ·exfalso
   have h2:(S / V+2) * V <= t * V:=Nat.mul_le_mul_right _ h
   have h3:S < (S / V+1) * V:=by
    have:=Nat.div_add_mod S V
    have:=Nat.mod_lt S hVp
    rw [Nat.add_mul,zw (S / V)]; omega
   rw [Nat.add_mul] at h2 h3
   omega
  ·exact h
theorem knuth {X S V sl vl u u0 y1 y0:Nat} (hX:0 < X) (hS:S=sl+X * (u * B9+u0)) (hV:V=vl+X * (y1 * B9+y0)) (hsl:sl < X) (hvl:vl < X) (hu0:u0 < B9) (hy:0 < y1) (hlt:S < B9 * V):
  u <= y1 * B9+y0/\S / V <= za5 y1 y0 u u0/\za5 y1 y0 u u0 <= S / V+1/\S / V < B9/\za5 y1 y0 u u0 < B9:=
 knuthB zaC (Nat.min_le_left _ _) (Nat.min_le_right _ _) (fun _ h1 h2=>Nat.le_min.2 ⟨h1,h2⟩) hX hS hV hsl hvl hu0 hy hlt
theorem zks {y f:Nat} (hy:0 < y) (hyB:y < B9) (hf:B9 / (y+1)=f):0 < f/\B9 <= 2 * (y * f)/\f * (y+1) <= B9:=by
 have h1:0 < f:=by rw [<- hf]; exact Nat.div_pos (by omega) (by omega)
 have h2:B9 < (f+1) * (y+1):=by
  have:=Nat.div_add_mod B9 (y+1)
  have:=Nat.mod_lt B9 (show 0 < y+1 by omega)
  rw [hf] at *
  rw [Nat.add_mul,zw f]; omega
 have h3:f * (y+1) <= B9:=by rw [<- hf]; exact Nat.div_mul_le_self _ _
 refine ⟨h1,?_,h3⟩
 obtain ⟨f',rfl⟩:∃ g,f=g+1:=⟨f - 1,by omega⟩
 obtain ⟨y',rfl⟩:∃ z,y=z+1:=⟨y - 1,by omega⟩
 have e1:(y'+1) * (f'+1)=y' * f'+y'+f'+1:=by rw [Nat.add_mul,Nat.mul_add]; omega
 have e2:(f'+1+1) * (y'+1+1)=y' * f'+2 * y'+2 * f'+4:=by
  rw [zw]; simp only [Nat.add_mul,Nat.mul_add]; omega
 rw [e2] at h2
 rw [e1]
 generalize y' * f'=p at *
 unfold B9 at *
 omega
structure K3 (us0 us vs:List Nat) (j i t bw:Nat):Prop where
 len:us.length=us0.length
 lt:∀ x ∈ us,x < B9
 val:dval us+B9 ^ j * (t * dval (vs.take i))=dval us0+B9 ^ (j+i) * bw
 same:∀ m,m < j ∨ j+i <= m -> us[m]?=us0[m]?
 bw:bw < B9
theorem K3.start {us vs:List Nat} {j t:Nat} (h:∀ x ∈ us,x < B9):K3 us us vs j 0 t 0:=⟨rfl,h,by simp [dval],fun _ _=>rfl,zaC⟩
theorem K3.step {us0 us vs:List Nat} {j i t bw o y p d nb:Nat} (H:K3 us0 us vs j i t bw) (ho:us[j+i]?=some o) (hy:vs[i]?=some y) (hyl:y < B9) (ht:t < B9) (hp:t * y+bw=p)
  (hd:(o < p % B9/\d+p % B9=o+B9/\nb=p / B9+1) ∨ (p % B9 <= o/\d+p % B9=o/\nb=p / B9)):K3 us0 (us.set (j+i) d) vs j (i+1) t nb/\d < B9:=by
 have hol:=H.lt o (zk ho)
 have hm:=Nat.mod_lt p zaC
 have hdm:=Nat.mod_add_div p B9
 have hdl:d < B9:=by rcases hd with h | h <;> omega
 have hpb:p <= (B9 - 1) * B9:=by
  have h1:t * y <= (B9 - 1) * (B9 - 1):=Nat.mul_le_mul (by omega) (by omega)
  have h2:=H.bw
  have e:(B9 - 1) * B9=(B9 - 1) * (B9 - 1)+(B9 - 1):=by
   conv=>lhs; rw [show B9=(B9 - 1)+1 by have:=zaC; omega]
   rw [Nat.add_sub_cancel,Nat.mul_add,Nat.mul_one]
  omega
 have hq:p / B9 <= B9 - 1:=by
  have:=Nat.div_le_div_right (c:=B9) hpb
  rwa [Nat.mul_div_cancel _ zaC] at this
 have hnb:nb < B9:=by
  rcases hd with ⟨h1,h2,h3⟩ | ⟨h1,h2,h3⟩
  ·rcases Nat.lt_or_ge (p / B9) (B9 - 1) with h | h
   ·omega
   ·exfalso
    have h4:p / B9=B9 - 1:=by omega
    rw [h4,zw B9] at hdm
    have:p % B9=0:=by omega
    omega
  ·have:=zaC; omega
 have hsum:d+p=o+B9 * nb:=by
  rcases hd with ⟨h1,h2,h3⟩ | ⟨h1,h2,h3⟩
  ·rw [h3,Nat.mul_add]; omega
  ·rw [h3]; omega
 refine ⟨⟨by rw [List.length_set]; exact H.len,zfi H.lt hdl,?_,?_,hnb⟩,hdl⟩
 ·have h1 := zeY (d := d) ho
  have h2:=H.val
  rw [zaO,zbu hy,Nat.mul_add,Nat.mul_add]
  have e1:B9 ^ (j+(i+1)) * nb=B9 ^ (j+i) * (B9 * nb):=by rw [<- Nat.add_assoc,Nat.pow_succ,Nat.mul_assoc]
  have e2:B9 ^ j * (t * (B9 ^ i * y))=B9 ^ (j+i) * (t * y):=by
   rw [Nat.pow_add,Nat.mul_assoc]; congr 1
   rw [<- Nat.mul_assoc,zw t,Nat.mul_assoc]
  have h4:B9 ^ (j+i) * d+B9 ^ (j+i) * (t * y)+B9 ^ (j+i) * bw=B9 ^ (j+i) * o+B9 ^ (j+i) * (B9 * nb):=by
   rw [<- Nat.mul_add,<- Nat.mul_add,<- Nat.mul_add,<- hsum,<- hp]; congr 1; omega
  rw [e1,e2]
  omega
 ·intro m hm
  rw [List.getElem?_set_ne (by omega)]
  exact H.same m (by omega)
structure K4 (us0 us vs:List Nat) (j i cy:Nat):Prop where
 len:us.length=us0.length
 lt:∀ x ∈ us,x < B9
 val:dval us+B9 ^ (j+i) * cy=dval us0+B9 ^ j * dval (vs.take i)
 same:∀ m,m < j ∨ j+i <= m -> us[m]?=us0[m]?
 cy:cy <= 1
theorem K4.start {us vs:List Nat} {j:Nat} (h:∀ x ∈ us,x < B9):K4 us us vs j 0 0:=⟨rfl,h,by simp [dval],fun _ _=>rfl,by omega⟩
theorem K4.step {us0 us vs:List Nat} {j i cy o y x d nc:Nat} (H:K4 us0 us vs j i cy) (ho:us[j+i]?=some o) (hy:vs[i]?=some y) (hyl:y < B9) (hx:o+y+cy=x) (hd:x % B9=d) (hc:x / B9=nc):
  K4 us0 (us.set (j+i) d) vs j (i+1) nc/\d < B9:=by
 have hol:=H.lt o (zk ho)
 have hdl:d < B9:=by rw [<- hd]; exact Nat.mod_lt _ zaC
 have hdm:d+B9 * nc=x:=by rw [<- hd,<- hc]; exact Nat.mod_add_div _ _
 have hnc:nc <= 1:=by
  rw [<- hc]
  have:=H.cy
  have:x < 2 * B9:=by unfold B9 at *; omega
  have:=(Nat.div_lt_iff_lt_mul zaC (x:=x) (y:=2)).2 this
  omega
 refine ⟨⟨by rw [List.length_set]; exact H.len,zfi H.lt hdl,?_,?_,hnc⟩,hdl⟩
 ·have h1 := zeY (d := d) ho
  have h2:=H.val
  rw [zaO,zbu hy,Nat.mul_add]
  have e1:B9 ^ (j+(i+1)) * nc=B9 ^ (j+i) * (B9 * nc):=by rw [<- Nat.add_assoc,Nat.pow_succ,Nat.mul_assoc]
  have e2:B9 ^ j * (B9 ^ i * y)=B9 ^ (j+i) * y:=by rw [Nat.pow_add,Nat.mul_assoc]
  have h4:B9 ^ (j+i) * d+B9 ^ (j+i) * (B9 * nc)=B9 ^ (j+i) * o+B9 ^ (j+i) * y+B9 ^ (j+i) * cy:=by
   rw [<- Nat.mul_add,<- Nat.mul_add,<- Nat.mul_add,hdm,hx]
  rw [e1,e2]
  omega
 ·intro m hm
  rw [List.getElem?_set_ne (by omega)]
  exact H.same m (by omega)
theorem take_same {X us:List Nat} {j:Nat} (h:∀ m,m < j -> X[m]?=us[m]?):X.take j=us.take j:=by
 apply List.ext_getElem?
 intro m
 rw [List.getElem?_take,List.getElem?_take]
 by_cases hm:m < j
 ·rw [if_pos hm,if_pos hm,h m hm]
 ·rw [if_neg hm,if_neg hm]
theorem zfU {X us:List Nat} {j:Nat} (h:∀ m,j <= m -> X[m]?=us[m]?):X.drop j=us.drop j:=by
 apply List.ext_getElem?
 intro m
 rw [List.getElem?_drop,List.getElem?_drop,h _ (by omega)]
theorem zmg {X us:List Nat} {m:Nat} (h:X[m]?=us[m]?):dg X m=dg us m:=by
 unfold dg
 rw [List.getD_eq_getElem?_getD,List.getD_eq_getElem?_getD,h]
theorem zjQ (X:List Nat) (j n:Nat) (h:j+n < X.length):dval X=dval (X.take j)+B9 ^ j * (dval ((X.drop j).take n)+B9 ^ n * (dg X (j+n)+B9 * dval (X.drop (j+n+1)))):=by
 rw [zaJ X j (by omega),zaJ (X.drop j) n (by rw [List.length_drop]; omega),List.drop_drop,zat]
theorem seg9 (X:List Nat) (j n:Nat) (h:j+n < X.length):dval (X.drop j)=dval ((X.drop j).take n)+B9 ^ n * (dg X (j+n)+B9 * dval (X.drop (j+n+1))):=by
 rw [zaJ (X.drop j) n (by rw [List.length_drop]; omega),List.drop_drop,zat]
structure DK (us qs:List Nat) (N V k L n:Nat):Prop where
 len:us.length=L
 lt:∀ x ∈ us,x < B9
 ql:qs.length+n=L
 qlt:∀ x ∈ qs,x < B9
 val:N=dval us+V * (B9 ^ k * dval (qs.drop k))
 top:dval (us.drop k) < V
theorem DK.above {us qs:List Nat} {N V j L n:Nat} (H:DK us qs N V (j+1) L n) (hj:j+n < L) (hVn:V < B9 ^ n):dval (us.drop (j+n+1))=0:=by
 have h:=drop_zero (l:=us.drop (j+1)) (n:=n) (Nat.lt_trans H.top hVn) (by rw [List.length_drop,H.len]; omega)
 rwa [List.drop_drop,show j+1+n=j+n+1 by omega] at h
theorem DK.seg_lt {us qs:List Nat} {N V j L n:Nat} (H:DK us qs N V (j+1) L n):dval (us.drop j) < B9 * V:=by
 rw [zat]
 have h1:=H.top
 have h2:=dg_lt H.lt j
 have:B9 * (dval (us.drop (j+1))+1) <= B9 * V:=Nat.mul_le_mul_left _ h1
 rw [Nat.mul_add] at this
 omega
theorem DK.guess {us qs vs:List Nat} {N V j L m:Nat} (H:DK us qs N V (j+1) L (m+2)) (hj:j+(m+2) < L) (hv:dval vs=V) (hvl:vs.length=m+2) (hvb:∀ x ∈ vs,x < B9) (hy:0 < dg vs (m+1)):
  dg us (j+(m+2)) * B9+dg us (j+(m+2) - 1) <= dg vs (m+1) * B9+dg vs m /\
  dval (us.drop j) / V <= za5 (dg vs (m+1)) (dg vs m) (dg us (j+(m+2)) * B9+dg us (j+(m+2) - 1)) (dg us (j+(m+2) - 2)) /\
  za5 (dg vs (m+1)) (dg vs m) (dg us (j+(m+2)) * B9+dg us (j+(m+2) - 1)) (dg us (j+(m+2) - 2)) <= dval (us.drop j) / V+1 /\
  dval (us.drop j) / V < B9/\za5 (dg vs (m+1)) (dg vs m) (dg us (j+(m+2)) * B9+dg us (j+(m+2) - 1)) (dg us (j+(m+2) - 2)) < B9:=by
 have hVn:V < B9 ^ (m+2):=by rw [<- hv,<- hvl]; exact zc0 vs hvb
 have h0:=H.above hj hVn
 rw [show j+(m+2) - 1=j+m+1 by omega,show j+(m+2) - 2=j+m by omega,show j+(m+2)=j+m+2 by omega] at *
 have hul:j+m+2 < us.length:=by rw [H.len]; omega
 have eS:dval (us.drop j)=dval ((us.drop j).take m)+B9 ^ m * ((dg us (j+m+2) * B9+dg us (j+m+1)) * B9+dg us (j+m)):=by
  rw [zaJ (us.drop j) m (by rw [List.length_drop]; omega),List.drop_drop,zat us (j+m),zat us (j+m+1),zat us (j+m+1+1),h0]
  congr 2
  simp only [Nat.mul_zero,Nat.add_zero]
  rw [show dg us (j+m+1+1)=dg us (j+m+2) from rfl,Nat.mul_add,Nat.add_mul,zw (dg us (j+m+1)) B9,Nat.mul_assoc,zw (dg us (j+m+2)) (B9 * B9),Nat.mul_assoc]
  omega
 have eV:V=dval (vs.take m)+B9 ^ m * (dg vs (m+1) * B9+dg vs m):=by
  rw [<- hv,zaJ vs m (by omega),zat vs m,zat vs (m+1),List.drop_of_length_le (show vs.length <= m+1+1 by omega)]
  congr 2
  simp only [dval,Nat.mul_zero,Nat.add_zero]
  rw [zw (dg vs (m+1))]; omega
 exact knuth (Nat.pow_pos zaC) eS eV (zbJ (fun x hx=>H.lt x (List.mem_of_mem_drop hx)) m) (zbJ hvb m) (dg_lt H.lt _) hy H.seg_lt
theorem DK.next {us qs X:List Nat} {N V j L n:Nat} (H:DK us qs N V (j+1) L n) (hj:j+n < L) (hVn:V < B9 ^ n) (hVp:0 < V) (hXl:X.length=us.length) (hXb:∀ x ∈ X,x < B9)
  (hs:∀ m,m < j ∨ j+n <= m -> X[m]?=us[m]?) (hlow:dval ((X.drop j).take n)=dval (us.drop j) % V) (hqb:dval (us.drop j) / V < B9):
  DK (X.set (j+n) 0) (qs.set j (dval (us.drop j) / V)) N V j L n:=by
 have h0:=H.above hj hVn
 have hul:j+n < us.length:=by rw [H.len]; exact hj
 have hjq:j < qs.length:=by have:=H.ql; omega
 obtain ⟨S,hS⟩:∃ S,dval (us.drop j)=S:=⟨_,rfl⟩
 rw [hS] at hlow hqb ⊢
 have hXl':j+n < (X.set (j+n) 0).length:=by rw [List.length_set,hXl]; exact hul
 have e1:(X.set (j+n) 0).take j=us.take j:=take_same fun m hm=>by
  rw [List.getElem?_set_ne (by omega)]; exact hs m (.inl hm)
 have e2:((X.set (j+n) 0).drop j).take n=(X.drop j).take n:=by
  apply List.ext_getElem?
  intro m
  rw [List.getElem?_take,List.getElem?_take]
  by_cases hm:m < n
  ·rw [if_pos hm,if_pos hm,List.getElem?_drop,List.getElem?_drop,List.getElem?_set_ne (by omega)]
  ·rw [if_neg hm,if_neg hm]
 have e3:dg (X.set (j+n) 0) (j+n)=0:=zbu (by rw [List.getElem?_set_self (by rw [hXl]; exact hul)])
 have e4:(X.set (j+n) 0).drop (j+n+1)=us.drop (j+n+1):=zfU fun m hm=>by
  rw [List.getElem?_set_ne (by omega)]; exact hs m (.inr (by omega))
 have eseg:dval ((X.set (j+n) 0).drop j)=S % V:=by
  rw [seg9 _ j n hXl',e2,e3,e4,h0,hlow]; simp
 refine ⟨by rw [List.length_set,hXl]; exact H.len,zfi hXb zaC,by rw [List.length_set]; exact H.ql,zfi H.qlt hqb,?_,by rw [eseg]; exact Nat.mod_lt _ hVp⟩
 have eq1:(qs.set j (S / V)).drop j=(S / V) :: qs.drop (j+1):=by
  rw [List.drop_eq_getElem_cons (by simpa using hjq)]
  have e3:(qs.set j (S / V)).drop (j+1)=qs.drop (j+1):=by
   apply List.ext_getElem?
   intro i
   rw [List.getElem?_drop,List.getElem?_drop,List.getElem?_set_ne (by omega)]
  rw [e3]
  simp
 rw [H.val,zaJ us j (by omega),hS,zaJ (X.set (j+n) 0) j (by rw [List.length_set,hXl]; omega),e1,eseg,eq1,dval]
 have hdm:=Nat.div_add_mod S V
 have e5:V * (B9 ^ (j+1) * dval (qs.drop (j+1)))=V * (B9 ^ j * (B9 * dval (qs.drop (j+1)))):=by rw [Nat.pow_succ,Nat.mul_assoc]
 have e6:B9 ^ j * S=B9 ^ j * (S % V)+V * (B9 ^ j * (S / V)):=by
  have:B9 ^ j * S=B9 ^ j * (V * (S / V)+S % V):=by rw [hdm]
  rw [this,Nat.mul_add,<- Nat.mul_assoc,<- Nat.mul_assoc,zw (B9 ^ j) V]
  omega
 rw [e5,e6,Nat.mul_add,Nat.mul_add]
 omega
theorem K3.done {us us1 vs qs:List Nat} {N V j L n t bw:Nat} (H:DK us qs N V (j+1) L n) (K:K3 us us1 vs j n t bw) (hj:j+n < L) (hv:dval vs=V) (hvl:vs.length=n) (hVn:V < B9 ^ n) (hVp:0 < V)
  (h1:dval (us.drop j) / V <= t) (h2:t <= dval (us.drop j) / V+1):
  (t=dval (us.drop j) / V/\bw=dg us (j+n)/\dval ((us1.drop j).take n)=dval (us.drop j) % V) ∨
  (t=dval (us.drop j) / V+1/\bw=dg us (j+n)+1/\dval ((us1.drop j).take n)+V=dval (us.drop j) % V+B9 ^ n):=by
 have h0:=H.above hj hVn
 have hul:j+n < us.length:=by rw [H.len]; exact hj
 have hv1:=K.val
 rw [List.take_of_length_le (by omega:vs.length <= n),hv] at hv1
 rw [zjQ us1 j n (by rw [K.len]; exact hul),zjQ us j n hul,take_same fun m hm=>K.same m (.inl hm),zfU fun m (hm:j+n+1 <= m)=>K.same m (.inr (by omega)),zmg (K.same (j+n) (.inr (zv _))),h0] at hv1
 have hseg:=seg9 us j n hul
 rw [h0] at hseg
 have hlow:=zbJ (l:=us1.drop j) (fun x hx=>K.lt x (List.mem_of_mem_drop hx)) n
 generalize dval ((us1.drop j).take n)=low1 at *
 generalize dval ((us.drop j).take n)=low at *
 generalize dval (us.take j)=P at *
 generalize dg us (j+n)=u2 at *
 generalize dval (us.drop j)=S at *
 rw [Nat.mul_zero,Nat.add_zero] at hv1 hseg
 have e:low1+B9 ^ n * u2+t * V=S+B9 ^ n * bw:=by
  have h3:B9 ^ j * (low1+B9 ^ n * u2+t * V)=B9 ^ j * (S+B9 ^ n * bw):=by
   rw [hseg,Nat.mul_add _ _ (t * V),Nat.mul_add _ _ (B9 ^ n * bw),<- Nat.mul_assoc (B9 ^ j) (B9 ^ n) bw,<- Nat.pow_add]
   omega
  exact Nat.eq_of_mul_eq_mul_left (Nat.pow_pos zaC) h3
 have hdm:=Nat.div_add_mod S V
 have hml:=Nat.mod_lt S hVp
 generalize B9 ^ n=Z at *
 rcases (show t=S / V ∨ t=S / V+1 by omega) with ht | ht
 ·refine .inl ⟨ht, ?_⟩
  have e2:t * V=V * (S / V):=by rw [ht,zw]
  have e3:low1+Z * u2=S % V+Z * bw:=by omega
  have:u2=bw:=by
   rcases Nat.lt_trichotomy u2 bw with h | h | h
   ·exfalso
    have:Z * (u2+1) <= Z * bw:=Nat.mul_le_mul_left _ h
    rw [Nat.mul_add] at this; omega
   ·exact h
   ·exfalso
    have:Z * (bw+1) <= Z * u2:=Nat.mul_le_mul_left _ h
    rw [Nat.mul_add] at this; omega
  subst this
  exact ⟨rfl,by omega⟩
 ·refine .inr ⟨ht, ?_⟩
  have e2:t * V=V * (S / V)+V:=by rw [ht,Nat.add_mul,Nat.one_mul,zw]
  have e3:low1+Z * u2+V=S % V+Z * bw:=by omega
  have:bw=u2+1:=by
   rcases Nat.lt_trichotomy bw (u2+1) with h | h | h
   ·exfalso
    have:Z * bw <= Z * u2:=Nat.mul_le_mul_left _ (by omega)
    omega
   ·exact h
   ·exfalso
    have:Z * (u2+2) <= Z * bw:=Nat.mul_le_mul_left _ h
    rw [Nat.mul_add] at this; omega
  subst this
  rw [Nat.mul_add] at e3
  exact ⟨rfl,by omega⟩
theorem K4.done {us1 us2 vs:List Nat} {V j L n cy r:Nat} (K:K4 us1 us2 vs j n cy) (hl:us1.length=L) (hj:j+n < L) (hv:dval vs=V) (hvl:vs.length=n) (hr:r < B9 ^ n) (hlow:dval ((us1.drop j).take n)+V=r+B9 ^ n):
  cy=1/\dval ((us2.drop j).take n)=r:=by
 have hul:j+n < us1.length:=by rw [hl]; exact hj
 have hv1:=K.val
 rw [List.take_of_length_le (by omega:vs.length <= n),hv] at hv1
 rw [zjQ us2 j n (by rw [K.len]; exact hul),zjQ us1 j n hul,take_same fun m hm=>K.same m (.inl hm),zfU fun m (hm:j+n+1 <= m)=>K.same m (.inr (by omega)),zmg (K.same (j+n) (.inr (zv _)))] at hv1
 have hlow2:=zbJ (l:=us2.drop j) (fun x hx=>K.lt x (List.mem_of_mem_drop hx)) n
 generalize dval ((us2.drop j).take n)=low2 at *
 generalize dval ((us1.drop j).take n)=low1 at *
 generalize dval (us1.take j)=P at *
 generalize dg us1 (j+n)+B9 * dval (us1.drop (j+n+1))=u2 at *
 have e:low2+B9 ^ n * cy=low1+V:=by
  have h3:B9 ^ j * (low2+B9 ^ n * u2+B9 ^ n * cy)=B9 ^ j * (low1+B9 ^ n * u2+V):=by
   rw [Nat.mul_add _ _ (B9 ^ n * cy),Nat.mul_add _ _ V,<- Nat.mul_assoc (B9 ^ j) (B9 ^ n) cy,<- Nat.pow_add]
   omega
  have:=Nat.eq_of_mul_eq_mul_left (Nat.pow_pos zaC) h3
  omega
 have:=K.cy
 generalize B9 ^ n=Z at *
 rcases (show cy=0 ∨ cy=1 by omega) with rfl | rfl
 ·rw [Nat.mul_zero] at e; omega
 ·exact ⟨rfl,by omega⟩
section
open Go.RowKit
def QRet (w:World) (q r:Nat) (e:Ending) (w':World):Prop:=∃ s1 s2:NV,e = .returned (.tuple #[s1.v,s2.v])/\DigIs w' s1.v q/\DigIs w' s2.v r/\Nxt w w'
theorem zmf {w:World} {x:Nat} (hx:x < B9):DigL (w.alloc (.cells #[.int .i64 (x:Int)] 3)) (.slice (some ⟨w.heap.size,0,none⟩) 1 1) [x]:=by
 have hb:Blk (w.alloc (.cells #[.int .i64 (x:Int)] 3)) w.heap.size 3 (zae (ints [x])):=Blk.new
 exact DigL.of_blk hb rfl (by omega) (by intro y hy; rw [List.mem_singleton.1 hy]; exact hx)
theorem zkH {v1 v2:Value} {a b:Nat} {w:World} [h1:DigIs w v1 a] [h2:DigIs w v2 b] (hlt:a < b):
  Calls Tryz.prog 177 #[v1,v2] w (QRet w 0 a):=by
 obtain ⟨⟨A1,n1,c1⟩,rfl,_⟩:=h1.form
 obtain ⟨⟨A2,n2,c2⟩,rfl,_⟩:=h2.form
 have hc:cmpN a b = -1:=zb7 hlt
 go_enter Tryz.func177,Tryz.ntmps177
 go_wp2_with fail
 refine zf (zbp (a:=a) (b:=b)) ?_
 rintro e w1 ⟨rfl,hd⟩
 rw [hc]
 have hx:Nxt w w1:=⟨hd.below _⟩
 go_wp2_with fail
 simp [bodyPost,results,Tryz.results177,go_sem]
 exact ⟨⟨none,0,0⟩,⟨A1,n1,c1⟩,rfl,DigIs.zero _,za,zaa⟩
theorem znw {v1 v2:Value} {a b:Nat} {w:World} [h1:DigIs w v1 a] [h2:DigIs w v2 b] (hle:b <= a) (hb:dl b=1) (l1:dl a <= 2 ^ 28):
  Calls Tryz.prog 177 #[v1,v2] w (QRet w (a / b) (a % b)):=by
 obtain ⟨⟨A1,n1,c1⟩,rfl,_⟩:=h1.form
 obtain ⟨⟨A2,n2,c2⟩,rfl,hk2⟩:=h2.form
 have hb0:b ≠ 0:=by rintro rfl; rw [zfZ] at hb; cases hb
 have hdb:digs b=[b]/\b < B9:=by
  have h:=hb
  unfold dl at h
  rw [zdh hb0] at h ⊢
  have h3:digs (b / B9)=[]:=List.eq_nil_of_length_eq_zero (by simpa using h)
  have h4:b / B9=0:=zj4.1 h3
  have h5:b < B9:=by
   rcases Nat.lt_or_ge b B9 with h | h
   ·exact h
   ·have:=Nat.div_pos h zaC; omega
  rw [h3,Nat.mod_eq_of_lt h5]
  exact ⟨rfl,h5⟩
 obtain rfl:n2=1:=by have:=hk2.out; simp only at this; omega
 have hL2:=h2.list
 rw [hdb.1] at hL2
 obtain ⟨ad,e,hl,hcb⟩:=hL2.at_.2.2.2.at_ 0 b rfl
 subst e
 have hc2:ad.add 0=ad:=by unfold Addr.add; simp
 rw [hc2] at hcb
 have HB:=zc hdb.2; have HL:=zc l1; have HB0:Hid (0 < b):=zc (by omega)
 have hL1:=h1.list
 obtain ⟨Q,hQ⟩:∃ Q,a / b=Q:=⟨_,rfl⟩
 obtain ⟨R,hR⟩:∃ R,a % b=R:=⟨_,rfl⟩
 rw [hQ,hR]
 have HQ:=zc hQ; have HR:=zc hR
 have HRL:Hid (R < B9):=zc (by rw [<- hR]; exact Nat.lt_trans (Nat.mod_lt _ HB0.out) hdb.2)
 obtain ⟨c,hc⟩:∃ c,cmpN a b=c:=⟨_,rfl⟩
 have HC:=zc hc
 have hcn:decide (c < 0)=false:=by
  rw [<- hc]
  rcases Nat.lt_or_ge b a with h | h
  ·rw [zbR h]; decide
  ·rw [show a=b by omega,zbS]; decide
 clear hQ hR hdb hc hl hL2 hle hb l1 hb0
 go_enter Tryz.func177,Tryz.ntmps177
 go_wp2_with fail
 refine zf (zbp (a:=a) (b:=b)) ?_
 rintro e w1 ⟨rfl,hd⟩
 rw [HC.out]
 have hx:Nxt w w1:=⟨hd.below _⟩
 have hcb1:w1.cell? ad=some (.int .i64 (b:Int)):=by rw [zcB hd]; exact hcb
 clear hcb hd
 go_wp2_with fail
 refine zf (zgP (xs:=digs a) (d:=b) HL.out HB0.out (Nat.le_of_lt HB.out)) ?_
 rintro e w2 ⟨s1,rfl,hd1,hx2⟩
 rw [zai,HQ.out] at hd1
 rw [zai,HR.out]
 have hone:=zmf (w:=w2) HRL.out
 have hx3:Nxt w2 (w2.alloc (.cells #[.int .i64 (R:Int)] 3)):=zaa
 go_wp2_with fail
 refine zf (trim_c (ds:=[R])) ?_
 rintro e w4 ⟨s2,rfl,hd2,hx4⟩
 have e1:dval [R]=R:=by simp [dval]
 rw [e1] at hd2
 have hd3:DigIs w4 s1.v Q:=za
 have hx5:Nxt w w4:=zaa
 clear hx3 hx2 hone hx hx4
 go_wp2_with fail
 simp [bodyPost,results,Tryz.results177,go_sem]
 exact ⟨s1,s2,rfl,hd3,hd2,hx5⟩
end
section
open Go.RowKit
theorem top9 {b n:Nat} (h:dl b=n+1):∃ y,(digs b)[n]?=some y/\0 < y/\y < B9/\y * B9 ^ n <= b/\b < (y+1) * B9 ^ n:=by
 have hl:n < (digs b).length:=by show n < dl b; omega
 refine ⟨(digs b)[n],zg hl,?_,zbI b _ (List.getElem_mem hl),?_,?_⟩
 ·rcases Nat.eq_zero_or_pos (digs b)[n] with h0 | h0
  ·exfalso
   have e:dval (digs b)=dval ((digs b).take n):=by
    rw [zaJ (digs b) n (by omega),zat,zbu (zg hl),h0,List.drop_of_length_le (by show dl b <= n+1; omega)]
    simp [dval]
   have h1:=zbJ (zbI b) n
   rw [<- e,zai] at h1
   have:=zba h1
   omega
  ·exact h0
 ·have e := zaJ (digs b) n (by omega)
  rw [zai,zat,zbu (zg hl),List.drop_of_length_le (by show dl b <= n+1; omega)] at e
  simp only [dval,Nat.mul_zero,Nat.add_zero] at e
  rw [zw]; omega
 ·have e := zaJ (digs b) n (by omega)
  rw [zai,zat,zbu (zg hl),List.drop_of_length_le (by show dl b <= n+1; omega)] at e
  simp only [dval,Nat.mul_zero,Nat.add_zero] at e
  have h1:=zbJ (zbI b) n
  rw [Nat.add_mul,zw]; omega
structure Norm (a b f n la:Nat):Prop where
 fp:0 < f
 fb:f < B9
 vl:dl (b * f)=n+1
 vd:∃ z,(digs (b * f))[n]?=some z/\B9 <= 2 * z/\z < B9
 nl:dl (a * f) <= la+1
 top:a * f < b * f * B9 ^ (la - n)
theorem norm9 {a b y f n la:Nat} (hn:1 <= n) (hb:dl b=n+1) (ha:dl a=la) (hle:b <= a) (hy:(digs b)[n]?=some y) (hf:B9 / (y+1)=f):Norm a b f n la:=by
 obtain ⟨y',hy',h0,hyb,h1,h2⟩:=top9 hb
 obtain rfl:y'=y:=by rw [hy] at hy'; exact (zl hy').symm
 obtain ⟨g1,g2,g3⟩:=zks h0 hyb hf
 have hfb:f < B9:=by
  have:f * 2 <= f * (y'+1):=Nat.mul_le_mul_left _ (by omega)
  omega
 have hbf:b * f < B9 ^ (n+1):=by
  have e1:b * f < (y'+1) * B9 ^ n * f:=Nat.mul_lt_mul_of_pos_right h2 g1
  have e2:(y'+1) * B9 ^ n * f=f * (y'+1) * B9 ^ n:=by rw [zw,Nat.mul_assoc]
  have e3:f * (y'+1) * B9 ^ n <= B9 * B9 ^ n:=Nat.mul_le_mul_right _ g3
  rw [Nat.pow_succ,zw _ B9]; omega
 have hbl:b <= b * f:=Nat.le_mul_of_pos_right b g1
 have hvl:dl (b * f)=n+1:=by
  have h3:=zba hbf
  have h4:=zep hbl
  omega
 obtain ⟨z,hz,z0,zb,z1,z2⟩:=top9 hvl
 have hal:a < B9 ^ la:=by rw [<- ha]; exact zfA a
 have hln:n+1 <= la:=by rw [<- hb,<- ha]; exact zep hle
 refine ⟨g1,hfb,hvl,⟨z,hz,?_,zb⟩,?_,?_⟩
 ·have h5:y' * f * B9 ^ n < (z+1) * B9 ^ n:=by
   have e:y' * f * B9 ^ n=y' * B9 ^ n * f:=by rw [Nat.mul_assoc,zw f,Nat.mul_assoc]
   have:y' * B9 ^ n * f <= b * f:=Nat.mul_le_mul_right _ h1
   omega
  have:=Nat.lt_of_mul_lt_mul_right h5
  omega
 ·apply zba
  have:a * f < B9 ^ la * B9:=Nat.mul_lt_mul_of_lt_of_lt hal hfb
  rw [Nat.pow_succ]; exact this
 ·have e1 : a * f < B9 ^ la * f := Nat.mul_lt_mul_of_pos_right hal g1
  have e2:B9 ^ la * f=B9 ^ n * f * B9 ^ (la - n):=by
   rw [Nat.mul_assoc,zw f,<- Nat.mul_assoc,<- Nat.pow_add,Nat.add_sub_cancel' (by omega)]
  have e3:B9 ^ n <= b:=by
   have:1 * B9 ^ n <= y' * B9 ^ n:=Nat.mul_le_mul_right _ h0
   omega
  have e4:B9 ^ n * f * B9 ^ (la - n) <= b * f * B9 ^ (la - n):=Nat.mul_le_mul_right _ (Nat.mul_le_mul_right _ e3)
  omega
theorem zcH {w W:World} {g i:Nat} {x:Value} (h:Nxt w W) (hg:w.heap.size <= g):Nxt w (W.setCell ⟨g,i,none⟩ x):=
 ⟨⟨h.out.os,h.out.tape,h.out.output,by have:=h.out.size; simpa [World.setCell] using this,fun k hk=>(Below.heap_setCell W ⟨g,i,none⟩ x k (by have:=h.out.size; show k ≠ g; omega)).trans (h.out.block k hk)⟩⟩
theorem add0 (g i:Nat):(⟨g,0,none⟩:Addr).add i=⟨g,i,none⟩:=by unfold Addr.add; by_cases hi:i=0 <;> simp [hi]
theorem zdr {w:World} {ops:Array Oper} {rest:List Oper} {o:Oper} {a:Act} {Q:Exit -> Act -> World -> Prop} (hgd:o.guard=none) (s x:Operand)
  (ho:o.op = .call { callee := .builtin .append,args:=#[s,x],argTypes:=#[91,91] }) (g:Nat) (hs:a.eval s = .slice (some ⟨g,0,none⟩) 0 0)
  (ad:Addr) (m c:Nat) (ds:List Nat) (hx:a.eval x = .slice (some ad) m c) (hl:ds.length=m) (hm:0 < m) (hm2:m < 2 ^ 30) (hc:DigAt w (some ad) ds)
  (h:∀ v' w',OwnI w' v' (ints ds) -> Nxt w w' -> v'.ownBlock=some w.heap.size -> wpList Tryz.prog ops Q rest (a.put o.dst v') w'):wpList Tryz.prog ops Q (o :: rest) a w:=by
 refine wpList_plain hgd fun K hK=>?_
 obtain ⟨i0,hi0,hz0,hz1,hz2⟩:=info_parts zg9
 have hr:=run_append_grow (P:=Tryz.prog) w 91 o.type 3 i0 (.int .i64 0) Tryz.underlying91 hi0 hz0 ⟨g,0,none⟩ 0 0 [] (by rw [hz1]; rfl) (by simp) ad m c ((ints ds).map fun z=>Value.int .i64 z) (by rw [hz1,List.length_map,zax,hl,Nat.mul_one])
  (by
   intro j u hu
   rw [List.getElem?_map] at hu
   cases hj:(ints ds)[j]? with
   | none=>rw [hj] at hu; cases hu
   | some z=>
    rw [hj] at hu
    obtain rfl:=zl hu
    have hd:∃ y,ds[j]?=some y/\z=(y:Int):=by
     unfold ints at hj
     rw [List.getElem?_map,Option.map_eq_some_iff] at hj
     obtain ⟨y,h1,h2⟩:=hj
     exact ⟨y,h1,h2.symm⟩
    obtain ⟨y,hy,rfl⟩:=hd
    obtain ⟨ad',e,_,hcc⟩:=hc.at_ j y hy
    injection e with e
    subst e
    exact hcc) (by omega) (by omega) (growslice_fits (by omega) (by rw [hz2]; omega))
 rw [Nat.zero_add] at hr
 have hge:=grownCap_ge w m 0 3
 have hcm:grownCap w m 0 3 <= maxLen:=grownCap_le_maxLen w m 0 3 (by unfold maxLen; omega)
 unfold Oper.wp execOp
 simp only [ho,resolve,invoke,builtin,Sem.run_bind,Sem.run_pure,Result.andThen_ok,List.map_toArray,List.map_cons,List.map_nil,hs,hx,hr]
 refine hK _ _ (h _ _ (.inr ⟨w.heap.size,List.replicate (grownCap w m 0 3 - m) 0,?_,?_,?_⟩) ?_ rfl)
 ·rw [zax,hl,List.length_replicate]; congr 1; omega
 ·rw [zax,hl,List.length_replicate]; omega
 ·rw [ze2]
  have e:([]:List Value).toArray ++ ((ints ds).map fun z=>Value.int .i64 z).toArray ++ zae (List.replicate (grownCap w m 0 3 - m) 0)=zae (ints ds ++ List.replicate (grownCap w m 0 3 - m) 0):=by simp [zae]
  rw [e]
  exact ⟨heap_alloc_new w.drew _⟩
 ·exact zaa
instance DigIs.list_ {w:World} {v:Value} {n:Nat} [h:DigIs w v n]:DigL w v (digs n):=h.list
theorem ucell {w:World} {g i x:Nat} {t:TypeId} {us:List Nat} {tl:List Int} (h:Blk w g t (zae (ints us ++ tl))) (hx:us[i]?=some x):w.cell? ⟨g,i,none⟩=some (.int .i64 (x:Int)):=
 zav h (by rw [List.getElem?_append_left (by rw [zax]; exact (zh.1 hx).1)]; exact zbZ hx)
theorem uset {w:World} {g i x:Nat} {t:TypeId} {us:List Nat} {tl:List Int} (h:Blk w g t (zae (ints us ++ tl))) (hi:i < us.length):Blk (w.setCell ⟨g,i,none⟩ (.int .i64 (x:Int))) g t (zae (ints (us.set i x) ++ tl)):=by
 have:=zbs (i:=i) (x:=(x:Int)) h
 rwa [List.set_append_left _ _ (by rw [zax]; exact hi),ints_set] at this
theorem usetm {w:World} {g i:Nat} {z:Int} {t:TypeId} {us:List Nat} {tl:List Int} (h:Blk w g t (zae (ints us ++ tl))) (hi:i < us.length):Blk (w.setCell ⟨g,i,none⟩ (.int .i64 z)) g t (zae ((ints us).set i z ++ tl)):=by
 have:=zbs (i:=i) (x:=z) h
 rwa [List.set_append_left _ _ (by rw [zax]; exact hi)] at this
theorem znP {w:World} {g i:Nat} {z:Int} {t:TypeId} {us:List Nat} {tl:List Int} (h:Blk w g t (zae ((ints us).set i z ++ tl))) (hi:i < us.length):w.cell? ⟨g,i,none⟩=some (.int .i64 z):=
 zav h (by rw [List.getElem?_append_left (by rw [List.length_set,zax]; exact hi),List.getElem?_set_self (by rw [zax]; exact hi)])
theorem znQ {w:World} {g i jn x:Nat} {z:Int} {t:TypeId} {us:List Nat} {tl:List Int} (h:Blk w g t (zae ((ints us).set jn z ++ tl))) (hx:us[i]?=some x) (hne:jn ≠ i):w.cell? ⟨g,i,none⟩=some (.int .i64 (x:Int)):=
 zav h (by rw [List.getElem?_append_left (by rw [List.length_set,zax]; exact (zh.1 hx).1),List.getElem?_set_ne hne]; exact zbZ hx)
theorem uset2 {w:World} {g i jn x:Nat} {z:Int} {t:TypeId} {us:List Nat} {tl:List Int} (h:Blk w g t (zae ((ints us).set jn z ++ tl))) (hi:i < us.length) (hne:jn ≠ i):Blk (w.setCell ⟨g,i,none⟩ (.int .i64 (x:Int))) g t (zae ((ints (us.set i x)).set jn z ++ tl)):=by
 have:=zbs (i:=i) (x:=(x:Int)) h
 rwa [List.set_append_left _ _ (by rw [List.length_set,zax]; exact hi),List.set_comm _ _ hne,ints_set] at this
theorem uset3 {w:World} {g jn x:Nat} {z:Int} {t:TypeId} {us:List Nat} {tl:List Int} (h:Blk w g t (zae ((ints us).set jn z ++ tl))) (hi:jn < us.length):Blk (w.setCell ⟨g,jn,none⟩ (.int .i64 (x:Int))) g t (zae (ints (us.set jn x) ++ tl)):=by
 have:=zbs (i:=jn) (x:=(x:Int)) h
 rwa [List.set_append_left _ _ (by rw [List.length_set,zax]; exact hi),List.set_set,ints_set] at this
theorem zcP {us:List Nat} {i:Nat} (h:i < us.length):us[i]?=some (dg us i):=by
 rw [zbu (zg h)]; exact zg h
theorem zmc {v1 v2:Value} {a b n la:Nat} {w:World} [h1:DigIs w v1 a] [h2:DigIs w v2 b] (hle:b <= a) (hn:1 <= n) (hb:dl b=n+1) (ha:dl a=la) (l1:la <= 2 ^ 24):
  Calls Tryz.prog 177 #[v1,v2] w (QRet w (a / b) (a % b)):=by
 obtain ⟨⟨A1,n1,c1⟩,rfl,hk1⟩:=h1.form
 obtain ⟨⟨A2,n2,c2⟩,rfl,hk2⟩:=h2.form
 obtain rfl:n1=la:=by have:=hk1.out; simp only at this; omega
 obtain ⟨nn,hnn⟩:∃ nn,n+1=nn:=⟨_,rfl⟩
 obtain rfl:n2=nn:=by have:=hk2.out; simp only at this; omega
 have hln:n2 <= n1:=by rw [<- hnn,<- hb,<- ha]; exact zep hle
 obtain ⟨y,hy,hy0,hyb,_,_⟩:=top9 hb
 obtain ⟨f,hf⟩:∃ f,B9 / (y+1)=f:=⟨_,rfl⟩
 have HNO:=zc (norm9 hn hb ha hle hy hf)
 obtain ⟨ad,e,hl,hcy⟩:=h2.list.at_.2.2.2.at_ n y hy
 subst e
 have hL1:=h1.list
 have hL2:=h2.list
 have LD1:Hid ((digs a).length=n1):=zc ha
 have LD2:Hid ((digs b).length=n2):=zc (hb.trans hnn)
 obtain ⟨Q,hQ⟩:∃ Q,a / b=Q:=⟨_,rfl⟩
 obtain ⟨R,hR⟩:∃ R,a % b=R:=⟨_,rfl⟩
 rw [hQ,hR]
 have HQ:=zc hQ; have HR:=zc hR
 obtain ⟨c,hc⟩:∃ c,cmpN a b=c:=⟨_,rfl⟩
 have HC:=zc hc
 have hcn:decide (c < 0)=false:=by
  rw [<- hc]
  rcases Nat.lt_or_ge b a with h | h
  ·rw [zbR h]; decide
  ·rw [show a=b by omega,zbS]; decide
 have hne1:((n2:Int) == 1)=false:=by simp; omega
 have w1:IntKind.i64.wrap ((n2:Int) - 1)=(n:Int):=by rw [zx]; omega
 have l2:(n:Int) < (n2:Int):=by omega
 obtain ⟨y1,hy1⟩:∃ y1,y+1=y1:=⟨_,rfl⟩
 have w2:IntKind.i64.wrap ((y:Int)+1)=(y1:Int):=by unfold B9 at hyb; rw [zx]; omega
 have y1n:¬ y1=0:=by omega
 have hfb:=HNO.out.fb
 have t1:Int.tdiv (1000000000:Int) (y1:Int)=(f:Int):=by
  have:=(zc8 (a:=B9) (b:=y+1) hf (by unfold B9 at hfb; omega)).1
  rw [<- hy1]; exact this
 have t2:(1000000000:Int) / (y1:Int)=(f:Int):=by
  have:=(zc8 (a:=B9) (b:=y+1) hf (by unfold B9 at hfb; omega)).2.1
  rw [<- hy1]; exact this
 have t3:IntKind.i64.wrap (f:Int)=(f:Int):=zcJ (by unfold B9 at hfb; omega)
 have HNN:=zc hnn; have HLN:=zc hln; have HL1:=zc l1; have HN:=zc hn; have HFB:=zc hfb
 clear hQ hR hc hy hyb hf hy1 hfb hb ha hle hnn hl l1 hn hy0
 go_enter Tryz.func177,Tryz.ntmps177
 go_wp2_with fail
 refine zf (zbp (a:=a) (b:=b)) ?_
 rintro e wA ⟨rfl,hd⟩
 rw [HC.out]
 have hx:Nxt w wA:=⟨hd.below _⟩
 have hcy1:wA.cell? (ad.add n)=some (.int .i64 (y:Int)):=by rw [zcB hd]; exact hcy
 clear hcy hd
 have hone:=zmf (w:=wA) HFB.out
 have hxo:Nxt wA (wA.alloc (.cells #[.int .i64 (f:Int)] 3)):=zaa
 have hbf:Blk (wA.alloc (.cells #[.int .i64 (f:Int)] 3)) wA.heap.size 3 #[.int .i64 (f:Int)]:=Blk.new
 have HBF0:=zc hbf
 clear hbf
 have hL1o:DigL (wA.alloc (.cells #[.int .i64 (f:Int)] 3)) (.slice A1 n1 c1) (digs a):=za
 have hL2o:DigL (wA.alloc (.cells #[.int .i64 (f:Int)] 3)) (.slice (some ad) n2 c2) (digs b):=za
 go_wp2_with fail
 refine zf (zdw (xs:=digs b) (ys:=[f]) (by rw [LD2.out]; have:=HLN.out; have:=HL1.out; omega) (by simp)) ?_
 rintro e wV ⟨sv,rfl,hV,hxV⟩
 have hvk:sv.k=n2:=by
  obtain ⟨A,k,c⟩:=sv
  have:=hV.len
  simp only at this ⊢
  rw [this,zai]
  simp only [dval,Nat.mul_zero,Nat.add_zero]
  rw [HNO.out.vl,HNN.out]
 obtain ⟨Av,kv,cv⟩:=sv
 simp only at hvk
 subst hvk
 have ev:dval (digs b) * dval [f]=b * f:=by rw [zai]; simp [dval]
 rw [ev] at hV
 have HBF1:Hid (Blk (wV.alloc (.cells #[] 3)) wA.heap.size 3 #[.int .i64 (f:Int)]):=zc (Blk.nxt (h:=zaa) (k:=HBF0.out))
 clear HBF0
 have hL1v:DigL (wV.alloc (.cells #[] 3)) (.slice A1 n1 c1) (digs a):=za
 have honev:DigL (wV.alloc (.cells #[] 3)) (.slice (some ⟨wA.heap.size,0,none⟩) 1 1) [f]:=za
 go_wp2_with fail
 refine zf (zdw (xs:=digs a) (ys:=[f]) (by rw [LD1.out]; have:=HL1.out; omega) (by simp)) ?_
 rintro e wN ⟨sn,rfl,hN0,hxN⟩
 have en:dval (digs a) * dval [f]=a * f:=by rw [zai]; simp [dval]
 rw [en] at hN0
 obtain ⟨An,kn,cn⟩:=sn
 have HBF:Hid (Blk wN wA.heap.size 3 #[.int .i64 (f:Int)]):=zc (Blk.nxt (h:=hxN) (k:=HBF1.out))
 clear HBF1
 have hkn:=hN0.len
 simp only at hkn
 have hNl:=hN0.list
 have hfN:DigL wN (.slice (some ⟨wA.heap.size,0,none⟩) 1 1) [f]:=za
 have hVN:DigL wN (.slice Av kv cv) (digs (b * f)):=by have:=hV.list; infer_instance
 have hL1N:DigL wN (.slice A1 n1 c1) (digs a):=za
 have hxwN:Nxt w wN:=zaa
 clear hL1v honev hL1o hL2o hone hxo hxV hx hV hN0 hL1 hL2 hcy1
 have HFN:=zc hfN; have HVN:=zc hVN; have HXN:=zc hxwN; have HNL:=zc hNl; have HKN:=zc hkn
 obtain ⟨x0,hx0,_⟩:∃ x,(digs (a * f))[0]?=some x/\True:=by
  have:0 < dl (a * f):=zf0 (by
   have h1:=HNO.out.fp
   have h2:=HLN.out; have h3:=HN.out; have h4:=HNN.out
   intro h
   rcases Nat.mul_eq_zero.1 h with h | h
   ·have:=LD1.out; rw [h,zaQ] at this; simp at this; omega
   ·omega)
  exact ⟨(digs (a * f))[0]'this,zg this,trivial⟩
 obtain ⟨adn,e,_,_⟩:=hNl.at_.2.2.2.at_ 0 x0 hx0
 subst e
 have hkp:0 < kn:=by rw [hkn]; have:=(zh.1 hx0).1; exact this
 have HKP:=zc hkp
 clear hx0 hkp hkn hNl hVN hfN hxwN hL1N
 go_upto_region 10 with (at_builtin; refine zdr rfl (.tmp 58) (.tmp 61) rfl wV.heap.size rfl adn kn cn (digs (a * f)) rfl HKN.out.symm HKP.out (by rw [HKN.out]; have:=HNO.out.nl; have:=HL1.out; omega) HNL.out.at_.2.2.2 ?_; intro vu wu hou hxu hob; obtain ⟨Au,ku,cu,rfl,hku⟩:=hou.form2; clear hku)
 obtain ⟨L,hL⟩:∃ L,n1+1=L:=⟨_,rfl⟩
 have hLw:IntKind.i64.wrap ((n1:Int)+1)=(L:Int):=by have:=HL1.out; rw [zx]; omega
 have HLL:=zc hL
 have HOU:=zc hou; have HXU:=zc hxu; have HOB:=zc hob
 have HFV:=zc (show (wV.alloc (.cells #[] 3)).heap.size <= wN.heap.size from by first | exact hxN.out.size | exact zv _)
 clear hou hxu hob hL
 go_loopg [11] (L - dl (a * f)) (fun gk s11 wr=>∃ (us:List Nat) (A:Option Addr) (k c:Nat),gk=L - us.length/\s11 = .slice A k c/\us.length <= L/\dval us=a * f/\(∀ x ∈ us,x < B9)/\OwnI wr (.slice A k c) (ints us)/\(∀ g,(Value.slice A k c).ownBlock=some g -> wN.heap.size <= g)/\Nxt wN wr)
 case atStart=>exact ⟨digs (a * f),Au,ku,cu,rfl,rfl,by have:=HNO.out.nl; have:=HLL.out; show dl (a * f) <= L; omega,zai _,zbI _,HOU.out,fun g hg=>by rw [HOB.out] at hg; injection hg with hg; omega,HXU.out⟩
 case round=>
  obtain ⟨us,A,k,c,rfl,rfl,hul,huv,hub,hou,hob,hxu⟩:=hrel
  obtain ⟨A',n',c',e,hk⟩:=hou.form2
  injection e with e1 e2 e3
  subst e1; subst e2; subst e3
  rw [zax] at hk
  have HK:=zc hk; have HUL:=zc hul; have HUV:=zc huv; have HUB:=zc hub; have HO:=zc hou; have HB:=zc hob; have HX:=zc hxu
  clear hk hul huv hub hou hob
  by_cases hkl:k < L
  ·have HKL := zc hkl
   have hc8:(wr.alloc (.cells #[.int .i64 0] 3)).cell? ⟨wr.heap.size,0,none⟩=some (.int .i64 0):=World.cell?_alloc_new _ _ _ _
   have hx8:Nxt wr (wr.alloc (.cells #[.int .i64 0] 3)):=zaa
   have HO8:=zc (HO.out.nxt hx8)
   have HC8:=zc hc8
   have HX8:Hid (Nxt wN (wr.alloc (.cells #[.int .i64 0] 3))):=zc zaa
   clear hc8 hx8 hxu
   have hlt1:decide ((k:Int) < (L:Int))=true:=by simp; omega
   go_upto_region 11 with fail
   go_upto_region 10 with (at_builtin; refine zam rfl (.tmp 69) (.tmp 70) rfl (.slice A k c) (ints us) rfl HO8.out ⟨wr.heap.size,0,none⟩ 1 0 rfl HC8.out (by rw [zax]; have:=HUL.out; have:=HLL.out; have:=HL1.out; omega) ?_; intro v9 w9 ho9 hg9 hob9; obtain ⟨A9,n9,c9,rfl,hn9⟩:=ho9.form2; clear hn9)
   have HNEW:=zc (fun g (hg:(Value.slice A9 n9 c9).ownBlock=some g)=>show wN.heap.size <= g by
    rcases hob9 g hg with h | h
    ·exact HB.out g h
    ·exact zo HX8.out.out.size h)
   have HNX:=zc (nxt_grown HX8.out hg9 (fun g hg=>HB.out g hg))
   have HO9:Hid (OwnI w9 (.slice A9 n9 c9) (ints (us ++ [0]))):=zc (by rw [zb1]; exact ho9)
   clear ho9 hg9 hob9
   go_wp2_with fail
   go_roundg (L - (us ++ [0]).length)
   case rel=>exact ⟨us ++ [0],A9,n9,c9,rfl,rfl,by rw [List.length_append,<- HK.out]; exact HKL.out,by rw [zdo]; exact HUV.out,fun x hx=>by
    rcases List.mem_append.1 hx with h | h
    ·exact HUB.out x h
    ·rw [List.mem_singleton.1 h]; exact zaC,HO9.out,HNEW.out,HNX.out⟩
   case measure=>rw [List.length_append,List.length_singleton,<- HK.out]; have:=HKL.out; omega
  ·have hkL : k = L := by have := HUL.out; have := HK.out; omega
   subst hkL
   obtain ⟨gu,tl,rfl,hbu⟩:∃ (gu:Nat) (tl:List Int),A=some ⟨gu,0,none⟩/\Blk wr gu 3 (zae (ints us ++ tl)):=by
    rcases HO.out with ⟨h,_⟩ | ⟨g,tl,h,_,hb⟩
    ·injection h with _ h _; have:=HLL.out; omega
    ·injection h with h _ _; exact ⟨g,tl,h,hb⟩
   have HGU:Hid (wN.heap.size <= gu):=zc (HB.out gu rfl)
   have HBU:=zc hbu
   clear hbu
   obtain ⟨m,hm⟩:∃ m,k - kv=m:=⟨_,rfl⟩
   have hmw:IntKind.i64.wrap ((k:Int) - (kv:Int))=(m:Int):=by have:=HLL.out; have:=HL1.out; have:=HLN.out; rw [zx]; omega
   have hmw1:IntKind.i64.wrap ((m:Int) - 1)=(m:Int) - 1:=by have:=HLL.out; have:=HL1.out; rw [zx]; omega
   have hmk:∀ w,(Instr.makeSlice 91 (.int .i64 (m:Int)) (.int .i64 (m:Int))).run Tryz.prog w = .ok (.slice (some ⟨w.heap.size,0,none⟩) m m) (w.alloc (.cells (zae (List.replicate m 0)) 3)):=zdc m (by have:=HLL.out; have:=HL1.out; omega)
   have HM:=zc hm
   clear hm
   have hlt1:decide ((k:Int) < (k:Int))=false:=by simp
   have hq0:Blk (wr.alloc (.cells (zae (List.replicate m 0)) 3)) wr.heap.size 3 (zae (ints (List.replicate m 0))):=by
    have e:ints (List.replicate m 0)=List.replicate m (0:Int):=by simp [ints]
    rw [e]; exact Blk.new
   have hxr:Nxt wr (wr.alloc (.cells (zae (List.replicate m 0)) 3)):=zaa
   have hu0:Blk (wr.alloc (.cells (zae (List.replicate m 0)) 3)) gu 3 (zae (ints us ++ tl)):=Blk.nxt (h:=hxr) (k:=HBU.out)
   have hxW:Nxt wN (wr.alloc (.cells (zae (List.replicate m 0)) 3)):=zaa
   have hgq:wN.heap.size <= wr.heap.size:=HX.out.out.size
   have hne:gu ≠ wr.heap.size:=by have:=HBU.out.lt; omega
   go_wp2_with fail
   generalize wr.alloc (.cells (zae (List.replicate m 0)) 3)=W at *
   generalize wr.heap.size=gq at *
   have HQ0:=zc hq0; have HU0:=zc hu0; have HXW:=zc hxW; have HGQ:=zc hgq; have HNE:=zc hne
   clear hq0 hu0 hxW hgq hne hxr hmk hxu
   have HDK:Hid (DK us (List.replicate m 0) (a * f) (b * f) m k kv):=zc (by
    refine ⟨HK.out.symm,HUB.out,by rw [List.length_replicate]; have:=HM.out; have:=HLN.out; have:=HLL.out; omega,fun x hx=>by rw [List.eq_of_mem_replicate hx]; exact zaC,?_,?_⟩
    ·rw [List.drop_of_length_le (by simp),HUV.out]; simp [dval]
    ·have h1 := zaJ us m (by rw [<- HK.out]; have := HM.out; omega)
     rw [HUV.out] at h1
     have h2:=HNO.out.top
     have e:n1 - n=m:=by have:=HM.out; have:=HLL.out; have:=HNN.out; omega
     rw [e] at h2
     have h3:B9 ^ m * dval (us.drop m) < B9 ^ m * (b * f):=by rw [zw _ (b * f)]; omega
     exact Nat.lt_of_mul_lt_mul_left h3)
   obtain ⟨V,hV⟩:∃ V,b * f=V:=⟨_,rfl⟩
   obtain ⟨N,hN⟩:∃ N,a * f=N:=⟨_,rfl⟩
   have HVV:=zc hV; have HNN2:=zc hN
   rw [hV] at HVN HDK
   rw [hN] at HDK
   clear hV hN
   go_loopg [13] (0+m) (fun gk s13 wi=>∃ (j1:Nat) (us1 qs:List Nat),gk=0+j1/\j1 <= m/\s13 = .int .i64 ((j1:Int) - 1)/\DK us1 qs N V j1 k kv/\Blk wi gu 3 (zae (ints us1 ++ tl))/\Blk wi gq 3 (zae (ints qs))/\Nxt wN wi)
   case atStart=>exact ⟨m,us,List.replicate m 0,rfl,zv _,rfl,HDK.out,HU0.out,HQ0.out,HXW.out⟩
   case round=>
    obtain ⟨j1,us1,qs,rfl,hj1,rfl,hDK,hbu,hbq,hxi⟩:=hrel
    have HD:=zc hDK; have HU:=zc hbu; have HQQ:=zc hbq; have HXI:=zc hxi
    clear hDK hbu hbq hxi
    by_cases h0:0 < j1
    ·obtain ⟨j, rfl⟩ : ∃ j, j1 = j + 1 := ⟨j1 - 1, by omega⟩
     rw [show ((j+1:Nat):Int) - 1=(j:Int) by omega]
     have hge:decide ((0:Int) <= (j:Int))=true:=by simp
     have hjk:j+kv < k:=by have:=HM.out; have:=HLN.out; have:=HLL.out; omega
     have hjw:IntKind.i64.wrap ((j:Int) - 1)=(j:Int) - 1:=by have:=HLL.out; have:=HL1.out; rw [zx]; omega
     obtain ⟨m2,hm2⟩:∃ m2,n=m2+1:=⟨n - 1,by have:=HN.out; omega⟩
     have hkv2:kv=m2+2:=by have:=HNN.out; omega
     obtain ⟨z,hz,hz2,hzb⟩:=HNO.out.vd
     rw [HVV.out] at hz
     have hvl:(digs V).length=kv:=by
      have h1:=HNO.out.vl
      rw [HVV.out,HNN.out] at h1
      exact h1
     have hul1:us1.length=k:=HD.out.len
     have hz1:dg (digs V) (m2+1)=z:=by rw [<- hm2]; exact zbu hz
     have hDK2:DK us1 qs N V (j+1) k (m2+2):=by rw [<- hkv2]; exact HD.out
     have hGU:=DK.guess (vs:=digs V) (m:=m2) hDK2 (by rw [<- hkv2]; exact hjk) (zai V) (by rw [hvl,hkv2]) (zbI V) (by rw [hz1]; unfold B9 at hz2; omega)
     clear hDK2
     rw [hz1,<- hkv2] at hGU
     obtain ⟨hg1,hg2,hg3,hg4,hg5⟩:=hGU
     obtain ⟨av,e,_,_⟩:=HVN.out.at_.2.2.2.at_ n z hz
     subst e
     have HCV:Hid (∀ wq,Nxt wN wq -> ∀ (i x:Nat),(digs V)[i]?=some x -> wq.cell? (av.add i)=some (.int .i64 (x:Int))):=zc fun wq hx i x hi=>by
      obtain ⟨ad2,e,hl2,hc2⟩:=HVN.out.at_.2.2.2.at_ i x hi
      injection e with e
      subst e
      exact (hx.out.cell (by rw [zaw]; exact hl2)).trans hc2
     have gc2:=ucell HU.out (zcP (us:=us1) (i:=j+kv) (by omega))
     have gc1:=ucell HU.out (zcP (us:=us1) (i:=j+kv - 1) (by omega))
     have gc0:=ucell HU.out (zcP (us:=us1) (i:=j+kv - 2) (by omega))
     have vc1:=HCV.out _ HXI.out (kv - 1) z (by rw [show kv - 1=n by omega]; exact hz)
     have vc0:=HCV.out _ HXI.out (kv - 2) _ (zcP (us:=digs V) (i:=kv - 2) (by omega))
     rw [show m2=kv - 2 by omega] at hg1 hg2 hg3 hg5
     have hguess:=guess_c (au:=⟨gu,0,none⟩) (av:=av) (ku:=k) (cu:=c) (n:=kv) (cv:=cv) (j:=j) (w:=wr) (by omega) hjk (by have:=HLL.out; have:=HL1.out; omega) (by rw [add0]; exact gc2) (by rw [add0]; exact gc1) (by rw [add0]; exact gc0) vc1 vc0
      (dg_lt HD.out.lt _) (dg_lt HD.out.lt _) (dg_lt HD.out.lt _) hzb (dg_lt (zbI V) _) hz2 hg1
     generalize za5 z (dg (digs V) (kv - 2)) (dg us1 (j+kv) * B9+dg us1 (j+kv - 1)) (dg us1 (j+kv - 2))=T at *
     have HGUESS:=zc hguess; have HG2:=zc hg2; have HG3:=zc hg3; have HG4:=zc hg4; have HG5:=zc hg5; have HJK:=zc hjk; have HVL:=zc hvl; have HUL1:=zc hul1
     have HXII:=HXI.out
     clear hguess hg1 hg2 hg3 hg4 hg5 gc2 gc1 gc0 vc1 vc0 hz hz2 hzb hz1 hkv2 hm2 hvl hul1
     go_wp2_with fail
     refine zf HGUESS.out ?_
     rintro e wg ⟨rfl,hdg⟩
     have hxg:Nxt wr wg:=⟨hdg.below _⟩
     have HUG:Hid (Blk wg gu 3 (zae (ints us1 ++ tl))):=zc (Blk.nxt (h:=hxg) (k:=HU.out))
     have HQG:Hid (Blk wg gq 3 (zae (ints qs))):=zc (Blk.nxt (h:=hxg) (k:=HQQ.out))
     have HXG:Hid (Nxt wN wg):=zc zaa
     clear hdg hxg HXII hjk
     go_wp2_with fail
     go_loopg [15,16] kv (fun gk s15 s16 wi=>∃ (i bw:Nat) (us2:List Nat),gk=kv - i/\i <= kv/\s15 = .int .i64 (bw:Int)/\s16 = .int .i64 (i:Int)/\K3 us1 us2 (digs V) j i T bw/\Blk wi gu 3 (zae (ints us2 ++ tl))/\Blk wi gq 3 (zae (ints qs))/\Nxt wN wi)
     case atStart=>exact ⟨0,0,us1,rfl,Nat.zero_le _,rfl,rfl,K3.start HD.out.lt,HUG.out,HQG.out,HXG.out⟩
     case round=>
      obtain ⟨i,bw,us2,rfl,hi,rfl,rfl,hK,hbu,hbq,hxi⟩:=hrel
      have HK3:=zc hK; have HU2:=zc hbu; have HQ2:=zc hbq; have HX2:=zc hxi
      clear hK hbu hbq hxi
      by_cases hin:i < kv
      ·have hlt2 : decide ((i : Int) < (kv : Int)) = true := by simp; omega
       have hlt2':(i:Int) < (kv:Int):=by omega
       have hsm:kv < 2 ^ 30/\j+kv < 2 ^ 30:=by have:=HJK.out; have:=HLL.out; have:=HL1.out; omega
       have hadd2:IntKind.i64.wrap ((i:Int)+1)=((i+1:Nat):Int):=by rw [zx]; omega
       obtain ⟨ij,hij⟩:∃ ij,j+i=ij:=⟨_,rfl⟩
       have hw1:IntKind.i64.wrap ((i:Int)+(j:Int))=(ij:Int):=zbe (by omega) (by omega)
       have hijk:(ij:Int) < (k:Int):=by have:=HJK.out; omega
       obtain ⟨yi,hyi⟩:∃ yi,(digs V)[i]?=some yi:=⟨_,zcP (by rw [HVL.out]; exact hin)⟩
       have hyb:yi < B9:=zbI V yi (zk hyi)
       obtain ⟨o,ho⟩:∃ o,us2[j+i]?=some o:=⟨_,zcP (by rw [HK3.out.len,HUL1.out]; have:=HJK.out; omega)⟩
       have hob:o < B9:=HK3.out.lt o (zk ho)
       obtain ⟨p1,hp1⟩:∃ p1,T * yi=p1:=⟨_,rfl⟩
       obtain ⟨p,hp⟩:∃ p,p1+bw=p:=⟨_,rfl⟩
       have hpb:=zfy (o:=0) (by unfold B9; omega) HG5.out hyb HK3.out.bw
       rw [hp1,Nat.zero_add,hp] at hpb
       have hps:p < 2 ^ 62:=by unfold B9 at hpb; omega
       have m1:IntKind.i64.wrap ((T:Int) * (yi:Int))=(p1:Int):=by rw [<- hp1,<- Int.natCast_mul]; rw [hp1]; exact zcJ (by omega)
       have m2:=zbe hp hps
       obtain ⟨pm,hpm⟩:∃ pm,p % B9=pm:=⟨_,rfl⟩
       obtain ⟨pq,hpq⟩:∃ pq,p / B9=pq:=⟨_,rfl⟩
       obtain ⟨r1,r2,r3⟩:=rem9 hpm
       obtain ⟨t4,t5,t6⟩:=quo9 hpq hps
       have hpml:pm < B9:=by rw [<- hpm]; exact Nat.mod_lt _ zaC
       have hpql:pq < 2 ^ 61:=by rw [<- hpq]; refine Nat.lt_of_le_of_lt (Nat.div_le_div_right (c:=B9) (Nat.le_of_lt hps)) ?_; unfold B9; omega
       obtain ⟨xz,hxz⟩:∃ xz:Int,(o:Int) - (pm:Int)=xz:=⟨_,rfl⟩
       have m3:IntKind.i64.wrap ((o:Int) - (pm:Int))=xz:=zja hxz (by unfold B9 at *; omega) (by unfold B9 at *; omega)
       have main:∃ (d nb:Nat),((o < p % B9/\d+p % B9=o+B9/\nb=p / B9+1) ∨ (p % B9 <= o/\d+p % B9=o/\nb=p / B9))/\((decide (xz < 0)=true/\IntKind.i64.wrap (xz+1000000000)=(d:Int)/\IntKind.i64.wrap ((pq:Int)+1)=(nb:Int)) ∨ (decide (xz < 0)=false/\xz=(d:Int)/\pq=nb)):=by
        rw [hpm,hpq]
        rcases Nat.lt_or_ge o pm with h | h
        ·refine ⟨o + B9 - pm, pq + 1, .inl ⟨h, by omega, rfl⟩, .inl ⟨by simp; omega, ?_, ?_⟩⟩
         ·unfold B9 at *; rw [zx]; omega
         ·rw [zx]; omega
        ·exact ⟨o - pm,pq,.inr ⟨h,by omega,rfl⟩,.inr ⟨by simp; omega,by omega,rfl⟩⟩
       obtain ⟨d,nb,hdisj,hcase⟩:=main
       have hst:=HK3.out.step ho hyi hyb HG5.out (by rw [hp1]; exact hp) hdisj
       have k1:=ucell HU2.out ho
       rw [hij] at hst k1
       have k2:wr.frozen? ⟨gu,ij,none⟩=false:=Blk.frozen (k:=HU2.out)
       have k3:=HCV.out wr HX2.out i yi hyi
       have HST:=zc hst.1
       have HUN:Hid (Blk (wr.setCell ⟨gu,ij,none⟩ (.int .i64 (d:Int))) gu 3 (zae (ints (us2.set ij d) ++ tl))):=zc (uset HU2.out (by have:=(zh.1 ho).1; omega))
       have HQN:Hid (Blk (wr.setCell ⟨gu,ij,none⟩ (.int .i64 (d:Int))) gq 3 (zae (ints qs))):=zc (Blk.far (k:=HQ2.out) (h:=⟨fun e=>HNE.out e.symm⟩))
       have HXN:Hid (Nxt wN (wr.setCell ⟨gu,ij,none⟩ (.int .i64 (d:Int)))):=zc (zcH HX2.out HGU.out)
       have HIN:=zc hin
       clear hst hdisj hyi ho hyb hob hp1 hp hpb hps hpm hpq hpml hpql hxz hij hin hsm
       rcases hcase with ⟨q1,q2,q3⟩ | ⟨q1,q2,q3⟩
       ·go_wp2_with fail
        go_roundg (kv - (i+1))
        case rel=>exact ⟨i+1,nb,us2.set ij d,rfl,HIN.out,rfl,rfl,HST.out,HUN.out,HQN.out,HXN.out⟩
        case measure=>have:=HIN.out; omega
       ·subst q2 q3
        go_wp2_with fail
        go_roundg (kv - (i+1))
        case rel=>exact ⟨i+1,pq,us2.set ij d,rfl,HIN.out,rfl,rfl,HST.out,HUN.out,HQN.out,HXN.out⟩
        case measure=>have:=HIN.out; omega
      ·obtain rfl : i = kv := by omega
       have hlt2:decide ((i:Int) < (i:Int))=false:=by simp
       have hVn:V < B9 ^ i:=by
        have:=zc0 (digs V) (zbI V)
        rwa [zai,HVL.out] at this
       have hVp:0 < V:=by
        rcases Nat.eq_zero_or_pos V with h | h
        ·have:=HVL.out; rw [h,zaQ] at this; simp at this; have:=HNN.out; omega
        ·exact h
       obtain ⟨jn,hjn⟩:∃ jn,j+i=jn:=⟨_,rfl⟩
       have hjnk:jn < k:=by rw [<- hjn]; exact HJK.out
       have hw1:IntKind.i64.wrap ((j:Int)+(i:Int))=(jn:Int):=zbe hjn (by have:=HLL.out; have:=HL1.out; omega)
       have hjnk':(jn:Int) < (k:Int):=by omega
       have hul2:jn < us2.length:=by rw [HK3.out.len,HUL1.out]; exact hjnk
       have hu2:us2[jn]?=some (dg us1 jn):=by rw [HK3.out.same jn (.inr (by omega))]; exact zcP (by rw [HUL1.out]; exact hjnk)
       have k1:=ucell HU2.out hu2
       have k2:wr.frozen? ⟨gu,jn,none⟩=false:=Blk.frozen (k:=HU2.out)
       have hjm:j < m:=by have:=HM.out; have:=HLN.out; have:=HLL.out; omega
       have hjm':(j:Int) < (m:Int):=by omega
       have hqj:j < qs.length:=by have:=HD.out.ql; have:=HM.out; omega
       have hend:=HK3.out.done HD.out HJK.out (zai V) HVL.out hVn hVp HG2.out HG3.out
       rw [hjn] at hend
       have HEND:=zc hend; have HVN2:=zc hVn; have HVP:=zc hVp; have HJN:=zc hjn; have HUL2:=zc hul2; have HQJ:=zc hqj; have HJNK:=zc hjnk; have HJM:=zc hjm
       clear hend hVn hVp hjn hul2 hqj hu2 hjnk hjm hi hin
       rcases HEND.out with ⟨hT,hbw,hlow⟩ | ⟨hT,hbw,hlow⟩
       ·have hz : IntKind.i64.wrap ((dg us1 jn : Int) - (bw : Int)) = 0 := by rw [hbw, zx]; omega
        have HT:=zc hT; have HLOW:=zc hlow
        clear hT hbw hlow
        have HUA:Hid (Blk (wr.setCell ⟨gu,jn,none⟩ (.int .i64 0)) gu 3 (zae (ints (us2.set jn 0) ++ tl))):=zc (uset (x:=0) HU2.out HUL2.out)
        have HQA:Hid (Blk (wr.setCell ⟨gu,jn,none⟩ (.int .i64 0)) gq 3 (zae (ints qs))):=zc (Blk.far (k:=HQ2.out) (h:=⟨fun e=>HNE.out e.symm⟩))
        have HXA:Hid (Nxt wN (wr.setCell ⟨gu,jn,none⟩ (.int .i64 0))):=zc (zcH HX2.out HGU.out)
        go_upto_region 29 with fail
        generalize wr.setCell ⟨gu,jn,none⟩ (.int .i64 0)=WA at *
        clear k1 k2
        have k1:WA.cell? ⟨gu,jn,none⟩=some (.int .i64 0):=ucell (x:=0) HUA.out (by rw [List.getElem?_set_self HUL2.out])
        have k3:∃ u,WA.cell? ⟨gq,j,none⟩=some u:=⟨_,zav HQA.out (zbZ (zcP HQJ.out))⟩
        obtain ⟨uq,k3⟩:=k3
        have k4:WA.frozen? ⟨gq,j,none⟩=false:=Blk.frozen (k:=HQA.out)
        have HQB:Hid (Blk (WA.setCell ⟨gq,j,none⟩ (.int .i64 (T:Int))) gq 3 (zae (ints (qs.set j T)))):=zc (by rw [<- ints_set]; exact zbs HQA.out)
        have HUB2:Hid (Blk (WA.setCell ⟨gq,j,none⟩ (.int .i64 (T:Int))) gu 3 (zae (ints (us2.set jn 0) ++ tl))):=zc (Blk.far (k:=HUA.out) (h:=⟨HNE.out⟩))
        have HXB:Hid (Nxt wN (WA.setCell ⟨gq,j,none⟩ (.int .i64 (T:Int)))):=zc (zcH HXA.out HGQ.out)
        have HDN:=zc (HD.out.next (X:=us2) HJK.out HVN2.out HVP.out HK3.out.len HK3.out.lt HK3.out.same HLOW.out HG4.out)
        rw [HJN.out,<- HT.out] at HDN
        go_wp2_with fail
        go_roundg (0+j)
        case rel=>exact ⟨j,us2.set jn 0,qs.set j T,rfl,Nat.le_of_lt HJM.out,rfl,HDN.out,HUB2.out,HQB.out,HXB.out⟩
        case measure=>omega
       ·have hTl : T < B9 := HG5.out
        have hz:IntKind.i64.wrap ((dg us1 jn:Int) - (bw:Int)) = -1:=by rw [hbw,zx]; omega
        obtain ⟨tq,htq⟩:∃ tq,dval (us1.drop j) / V=tq:=⟨_,rfl⟩
        have hT1:IntKind.i64.wrap ((T:Int) - 1)=(tq:Int):=by unfold B9 at hTl; rw [zx]; omega
        have HTQ:=zc htq; have HLOW:=zc hlow
        clear hT hbw hlow htq hTl
        have HUA:Hid (Blk (wr.setCell ⟨gu,jn,none⟩ (.int .i64 (-1))) gu 3 (zae ((ints us2).set jn (-1) ++ tl))):=zc (usetm HU2.out HUL2.out)
        have HQA:Hid (Blk (wr.setCell ⟨gu,jn,none⟩ (.int .i64 (-1))) gq 3 (zae (ints qs))):=zc (Blk.far (k:=HQ2.out) (h:=⟨fun e=>HNE.out e.symm⟩))
        have HXA:Hid (Nxt wN (wr.setCell ⟨gu,jn,none⟩ (.int .i64 (-1)))):=zc (zcH HX2.out HGU.out)
        go_upto_region 29 with fail
        generalize wr.setCell ⟨gu,jn,none⟩ (.int .i64 (-1))=WA at *
        clear k1 k2
        have k1:WA.cell? ⟨gu,jn,none⟩=some (.int .i64 (-1)):=znP HUA.out HUL2.out
        go_wp2_with fail
        clear k1
        go_loopg [19,20] i (fun gk s19 s20 wi=>∃ (i2 cy:Nat) (us3:List Nat),gk=i - i2/\i2 <= i/\s19 = .int .i64 (cy:Int)/\s20 = .int .i64 (i2:Int)/\K4 us2 us3 (digs V) j i2 cy/\Blk wi gu 3 (zae ((ints us3).set jn (-1) ++ tl))/\Blk wi gq 3 (zae (ints qs))/\Nxt wN wi)
        case atStart=>exact ⟨0,0,us2,rfl,Nat.zero_le _,rfl,rfl,K4.start HK3.out.lt,HUA.out,HQA.out,HXA.out⟩
        case round=>
         obtain ⟨i2,cy,us3,rfl,hi2,rfl,rfl,hK,hbu,hbq,hxi⟩:=hrel
         have HK4:=zc hK; have HU3:=zc hbu; have HQ3:=zc hbq; have HX3:=zc hxi
         clear hK hbu hbq hxi
         by_cases hin:i2 < i
         ·have hlt3 : decide ((i2 : Int) < (i : Int)) = true := by simp; omega
          have hlt3':(i2:Int) < (i:Int):=by omega
          have hsm:i < 2 ^ 30/\j+i < 2 ^ 30:=by have:=HJK.out; have:=HLL.out; have:=HL1.out; omega
          have hadd2:IntKind.i64.wrap ((i2:Int)+1)=((i2+1:Nat):Int):=by rw [zx]; omega
          obtain ⟨ij,hij⟩:∃ ij,j+i2=ij:=⟨_,rfl⟩
          have hw2:IntKind.i64.wrap ((i2:Int)+(j:Int))=(ij:Int):=zbe (by omega) (by omega)
          have hijk:(ij:Int) < (k:Int):=by have:=HJK.out; omega
          have hijn:jn ≠ ij:=by have:=HJN.out; omega
          have hl3:us3.length=us2.length:=HK4.out.len
          obtain ⟨yi,hyi⟩:∃ yi,(digs V)[i2]?=some yi:=⟨_,zcP (by rw [HVL.out]; exact hin)⟩
          have hyb:yi < B9:=zbI V yi (zk hyi)
          obtain ⟨o,ho⟩:∃ o,us3[j+i2]?=some o:=⟨_,zcP (by rw [hl3,HK3.out.len,HUL1.out]; have:=HJK.out; omega)⟩
          have hob:o < B9:=HK4.out.lt o (zk ho)
          have hcy:=HK4.out.cy
          obtain ⟨x1,hx1⟩:∃ x1,o+yi=x1:=⟨_,rfl⟩
          obtain ⟨x,hx⟩:∃ x,x1+cy=x:=⟨_,rfl⟩
          have hxs:x < 2 ^ 62:=by unfold B9 at hyb hob; omega
          have m1:=zbe hx1 (by omega)
          have m2:=zbe hx hxs
          obtain ⟨d,hd⟩:∃ d,x % B9=d:=⟨_,rfl⟩
          obtain ⟨nc,hnc⟩:∃ nc,x / B9=nc:=⟨_,rfl⟩
          obtain ⟨r1,r2,r3⟩:=rem9 hd
          obtain ⟨t4,t5,t6⟩:=quo9 hnc hxs
          have hst:=HK4.out.step ho hyi hyb (by rw [hx1]; exact hx) hd hnc
          have k1:=znQ HU3.out ho (by rw [hij]; exact hijn)
          rw [hij] at hst k1 ho
          have k3:=HCV.out wr HX3.out i2 yi hyi
          have HST:=zc hst.1; have HOO:=zc ho; have HIN:=zc hin; have HIJN:=zc hijn
          clear hst hyi ho hyb hob hx1 hx hxs hd hnc hij hin hsm hijn hcy hl3
          go_wp2_with fail
          go_quiet (fail)
          have hxw:Nxt wr (wr.drewN nq):=zaa
          have hW:Blk (wr.drewN nq) gu 3 (zae ((ints us3).set jn (-1) ++ tl)):=Blk.nxt (h:=hxw) (k:=HU3.out)
          have hWq:Blk (wr.drewN nq) gq 3 (zae (ints qs)):=Blk.nxt (h:=hxw) (k:=HQ3.out)
          have hN:Nxt wN (wr.drewN nq):=by have:=HX3.out; exact zaa
          clear k1 k3 hxw
          generalize wr.drewN nq=W4 at *
          have k1:W4.cell? ⟨gu,ij,none⟩=some (.int .i64 (o:Int)):=znQ hW HOO.out HIJN.out
          have k2:W4.frozen? ⟨gu,ij,none⟩=false:=Blk.frozen (k:=hW)
          have HUN:Hid (Blk (W4.setCell ⟨gu,ij,none⟩ (.int .i64 (d:Int))) gu 3 (zae ((ints (us3.set ij d)).set jn (-1) ++ tl))):=zc (uset2 hW (by have:=(zh.1 HOO.out).1; omega) HIJN.out)
          have HQN:Hid (Blk (W4.setCell ⟨gu,ij,none⟩ (.int .i64 (d:Int))) gq 3 (zae (ints qs))):=zc (Blk.far (k:=hWq) (h:=⟨fun e=>HNE.out e.symm⟩))
          have HXN2:Hid (Nxt wN (W4.setCell ⟨gu,ij,none⟩ (.int .i64 (d:Int)))):=zc (zcH hN HGU.out)
          clear hW hWq hN
          go_wp2_with fail
          go_roundg (i - (i2+1))
          case rel=>exact ⟨i2+1,nc,us3.set ij d,rfl,HIN.out,rfl,rfl,HST.out,HUN.out,HQN.out,HXN2.out⟩
          case measure=>have:=HIN.out; omega
         ·obtain rfl : i2 = i := by omega
          have hlt3:decide ((i2:Int) < (i2:Int))=false:=by simp
          have hrl:dval (us1.drop j) % V < B9 ^ i2:=Nat.lt_trans (Nat.mod_lt _ HVP.out) HVN2.out
          have hend:=HK4.out.done (L:=k) (by rw [HK3.out.len]; exact HUL1.out) HJK.out (zai V) HVL.out hrl HLOW.out
          obtain ⟨hc1,hlow3⟩:=hend
          subst hc1
          have hl3:us3.length=us2.length:=HK4.out.len
          have hul3:jn < us3.length:=by rw [hl3]; exact HUL2.out
          have k1:=znP HU3.out hul3
          have k2:wr.frozen? ⟨gu,jn,none⟩=false:=Blk.frozen (k:=HU3.out)
          have hz0:IntKind.i64.wrap ((-1:Int)+((1:Nat):Int))=0:=by decide
          have hz0':IntKind.i64.wrap ((-1:Int)+1)=0:=by decide
          have HUB3:Hid (Blk (wr.setCell ⟨gu,jn,none⟩ (.int .i64 0)) gu 3 (zae (ints (us3.set jn 0) ++ tl))):=zc (uset3 (x:=0) HU3.out hul3)
          have HQB3:Hid (Blk (wr.setCell ⟨gu,jn,none⟩ (.int .i64 0)) gq 3 (zae (ints qs))):=zc (Blk.far (k:=HQ3.out) (h:=⟨fun e=>HNE.out e.symm⟩))
          have HXB3:Hid (Nxt wN (wr.setCell ⟨gu,jn,none⟩ (.int .i64 0))):=zc (zcH HX3.out HGU.out)
          have HLOW3:=zc hlow3
          have HSAME:Hid (∀ mm,mm < j ∨ j+i2 <= mm -> us3[mm]?=us1[mm]?):=zc fun mm hm=>(HK4.out.same mm hm).trans (HK3.out.same mm hm)
          clear hrl hlow3 hl3 hul3 hi2 hin
          go_upto_region 39 with fail
          generalize wr.setCell ⟨gu,jn,none⟩ (.int .i64 0)=WA2 at *
          clear k1 k2
          have k3:∃ u,WA2.cell? ⟨gq,j,none⟩=some u:=⟨_,zav HQB3.out (zbZ (zcP HQJ.out))⟩
          obtain ⟨uq,k3⟩:=k3
          have k4:WA2.frozen? ⟨gq,j,none⟩=false:=Blk.frozen (k:=HQB3.out)
          have HQB:Hid (Blk (WA2.setCell ⟨gq,j,none⟩ (.int .i64 (tq:Int))) gq 3 (zae (ints (qs.set j tq)))):=zc (by rw [<- ints_set]; exact zbs HQB3.out)
          have HUB2:Hid (Blk (WA2.setCell ⟨gq,j,none⟩ (.int .i64 (tq:Int))) gu 3 (zae (ints (us3.set jn 0) ++ tl))):=zc (Blk.far (k:=HUB3.out) (h:=⟨HNE.out⟩))
          have HXB:Hid (Nxt wN (WA2.setCell ⟨gq,j,none⟩ (.int .i64 (tq:Int)))):=zc (zcH HXB3.out HGQ.out)
          have HDN:=zc (HD.out.next (X:=us3) HJK.out HVN2.out HVP.out (HK4.out.len.trans HK3.out.len) HK4.out.lt HSAME.out HLOW3.out HG4.out)
          rw [HJN.out,HTQ.out] at HDN
          go_wp2_with fail
          go_roundg (0+j)
          case rel=>exact ⟨j,us3.set jn 0,qs.set j tq,rfl,Nat.le_of_lt HJM.out,rfl,HDN.out,HUB2.out,HQB.out,HXB.out⟩
          case measure=>omega
    ·obtain rfl : j1 = 0 := by omega
     have hge:decide ((0:Int) <= ((0:Nat):Int) - 1)=false:=by decide
     have hvl:(digs V).length=kv:=by
      have h1:=HNO.out.vl
      rw [HVV.out,HNN.out] at h1
      exact h1
     have hVn:V < B9 ^ kv:=by
      have:=zc0 (digs V) (zbI V)
      rwa [zai,hvl] at this
     have hv:=HD.out.val
     have ht:=HD.out.top
     rw [List.drop_zero] at hv ht
     rw [Nat.pow_zero,Nat.one_mul] at hv
     have hVp:0 < V:=Nat.lt_of_le_of_lt (Nat.zero_le _) ht
     have hul1:us1.length=k:=HD.out.len
     have hkvk:kv <= k:=by have:=HLL.out; have:=HLN.out; omega
     have hz:dval (us1.drop kv)=0:=drop_zero (Nat.lt_trans ht hVn) (by omega)
     have htk:dval (us1.take kv)=dval us1:=by
      have:=zaJ us1 kv (by omega)
      rw [hz] at this
      omega
     have eQ:dval qs=Q:=by
      have h1:N / V=dval qs:=by rw [hv,Nat.add_mul_div_left _ _ hVp,Nat.div_eq_of_lt ht,Nat.zero_add]
      rw [<- h1,<- HNN2.out,<- HVV.out,Nat.mul_div_mul_right _ _ HNO.out.fp,HQ.out]
     have eR:dval (us1.take kv)=R * f:=by
      have h1:N % V=dval us1:=by rw [hv,Nat.add_mul_mod_self_left,Nat.mod_eq_of_lt ht]
      rw [htk,<- h1,<- HNN2.out,<- HVV.out,Nat.mul_mod_mul_right,HR.out]
     have hql:qs.length=m:=by have:=HD.out.ql; have:=HM.out; omega
     have hm40:m <= 2 ^ 40:=by have:=HM.out; have:=HLL.out; have:=HL1.out; omega
     have hDQ:DigL wr (.slice (some ⟨gq,0,none⟩) m m) qs:=DigL.of_blk HQQ.out hql hm40 HD.out.qlt
     have hDU:DigL wr (.slice (some ⟨gu,0,none⟩) kv c) (us1.take kv):=by
      have hO:=HO.out
      have hcc:k <= c/\c <= maxLen:=by
       rcases hO with ⟨h,_⟩ | ⟨g,tl2,h,hm,_⟩
       ·injection h with h _ _; cases h
       ·rw [zax] at h hm; injection h with _ h2 h3; omega
      have hlk:(us1.take kv).length=kv:=by rw [List.length_take]; omega
      refine ⟨some ⟨gu,0,none⟩,c,by rw [hlk],by rw [hlk]; omega,hcc.2,fun x hx=>HD.out.lt x (List.mem_of_mem_take hx),fun i u hu=>⟨_,rfl,HU.out.lt,?_⟩⟩
      rw [add0]
      refine ucell HU.out ?_
      rw [List.getElem?_take] at hu
      split at hu
      ·exact hu
      ·cases hu
     have hbf:Blk wr wA.heap.size 3 #[.int .i64 (f:Int)]:=Blk.nxt (h:=HXI.out) (k:=HBF.out)
     have hkc:(kv:Int) <= (c:Int):=by
      have:=hDU.at_.2.1; omega
     have hkc':kv <= c:=by omega
     have ER:=zc eR; have EQ:=zc eQ
     have HRF:Hid (dl (R * f) <= 2 ^ 28):=zc (by
      have h1:R * f < B9 ^ kv:=by rw [<- eR,htk]; exact Nat.lt_trans ht hVn
      have:=zba h1
      have:=HL1.out; have:=HLN.out
      omega)
     have hxw:Nxt w wr:=⟨HXN.out.out.trans (HXI.out.out.mono HXN.out.out.size)⟩
     clear hvl hVn hv ht hVp hul1 hz htk eQ eR hql hm40
     go_wp2_with fail
     (refine Code.nameW ?_; intro W hW; go_region_held3 (fun w'=>ButO W [] w') (exact zab) ((first | (go_at_call 235; refine zf (trim_c (ds:=us1.take kv)) ?_; rintro e w5 ⟨s5,rfl,hd5,hx5⟩; rw [ER.out] at hd5) | (go_at_call 234; refine zf (zgP (xs:=digs (R * f)) (d:=f) HRF.out HNO.out.fp (Nat.le_of_lt HNO.out.fb)) ?_; rintro e w6 ⟨s6,rfl,hd6,hx6⟩; rw [zai,Nat.mul_div_cancel _ HNO.out.fp] at hd6))))
     go_wp2_with fail
     refine zf (trim_c (ds:=qs)) ?_
     rintro e w7 ⟨s7,rfl,hd7,hx7⟩
     rw [EQ.out] at hd7
     go_wp2_with fail
     simp [bodyPost,results,Tryz.results177,go_sem]
     exact ⟨s7,s6,rfl,hd7,za,zaa⟩
theorem zcn {v1 v2:Value} {a b:Nat} {w:World} [h1:DigIs w v1 a] [h2:DigIs w v2 b] (hb:b ≠ 0) (l1:dl a <= 2 ^ 24):
  Calls Tryz.prog 177 #[v1,v2] w (QRet w (a / b) (a % b)):=by
 rcases Nat.lt_or_ge a b with h | h
 ·rw [Nat.div_eq_of_lt h, Nat.mod_eq_of_lt h]
  exact zkH h
 ·rcases Nat.lt_trichotomy (dl b) 1 with hl | hl | hl
  ·have:=zf0 hb; omega
  ·exact znw h hl (by omega)
  ·exact zmc (n:=dl b - 1) (la:=dl a) h (by omega) (by omega) rfl l1
end
section
open Go.RowKit
section
variable {v1 v2:Value} {x y:Int} {w:World}
theorem zjV [h1:ZIs w v1 x]:Calls Tryz.prog 207 #[v1] w (ZRet w (-x)):=by
 obtain ⟨⟨b,m⟩,rfl,HB,hd,_⟩:=h1.form
 have HX:Hid (sgn (!b) (dval (digs x.natAbs)) = -x):=zc (by have hb:=HB.out; simp only at hb; rw [zai,hb]; exact zlc x)
 go_enter Tryz.func207,Tryz.ntmps207
 go_wp2_with fail
 refine zf (zaP (ds:=digs x.natAbs)) ?_
 rintro e w1 ⟨⟨b1,s1⟩,rfl,hz,hx⟩
 rw [HX.out] at hz
 go_wp2_with fail
 simp [bodyPost,results,Tryz.results207,go_sem]
 exact ⟨⟨b1,s1⟩,rfl,za,zaa⟩
theorem zmL [h1:ZIs w v1 x] [h2:ZIs w v2 y] (l1:dl x.natAbs <= 2 ^ 28) (l2:dl y.natAbs <= 2 ^ 28):Calls Tryz.prog 139 #[v1,v2] w (ZRet w (x * y)):=by
 obtain ⟨⟨b,m⟩,rfl,HB,hd,_⟩:=h1.form
 obtain ⟨⟨c,n⟩,rfl,HC,hd2,_⟩:=h2.form
 have HX:Hid (sgn (b != c) (dval (digs (x.natAbs * y.natAbs)))=x * y):=zc (by have hb:=HB.out; have hc:=HC.out; simp only at hb hc; rw [zai,hb,hc]; exact zld x y)
 have L1:=zc l1; have L2:=zc l2
 have hd1:=hd.list
 have hd3:=hd2.list
 clear l1 l2
 go_enter Tryz.func139,Tryz.ntmps139
 go_wp2_with fail
 (refine Code.nameW ?_; intro W hW; go_region_held3 (fun w'=>ButO W [w.heap.size+1+1] w') (exact zab) ((first | (go_at_call 212; refine zf (zdw (xs:=digs x.natAbs) (ys:=digs y.natAbs) L1.out L2.out) ?_; rintro e w1 ⟨s1,rfl,hm1,hx1⟩; rw [zai,zai] at hm1) | (go_at_call 208; refine zf (zaP (ds:=digs (x.natAbs * y.natAbs))) ?_; rintro e w2 ⟨⟨b2,s2⟩,rfl,hz,hx2⟩; rw [show (!b == c)=(b != c) by cases b <;> cases c <;> rfl,HX.out] at hz))))
 all_goals go_wp2_with fail
 all_goals simp [bodyPost,results,Tryz.results139,go_sem]
 all_goals exact ⟨⟨b2,s2⟩,rfl,za,zaa⟩
theorem plus9_c [h1:ZIs w v1 x] [h2:ZIs w v2 y] (l1:dl x.natAbs <= 2 ^ 28) (l2:dl y.natAbs <= 2 ^ 28):Calls Tryz.prog 138 #[v1,v2] w (ZRet w (x+y)):=by
 obtain ⟨⟨b,m⟩,rfl,HB,hd,_⟩:=h1.form
 obtain ⟨⟨c,n⟩,rfl,HC,hd2,_⟩:=h2.form
 have L1:=zc l1; have L2:=zc l2
 have hd1:=hd.list
 have hd3:=hd2.list
 have hb:=HB.out
 have hc:=HC.out
 simp only at hb hc
 clear l1 l2
 by_cases hbc:b=c
 ·have HX : Hid (sgn b (x.natAbs + y.natAbs) = x + y) := zc (by rw [hb]; exact zjJ (by rw [<- hb, <- hc, hbc]))
  clear hb hc
  subst hbc
  go_enter Tryz.func138,Tryz.ntmps138
  go_wp2_with fail
  (refine Code.nameW ?_; intro W hW; go_region_held3 (fun w'=>ButO W [w.heap.size+1+1] w') (exact zab) ((first | (go_at_call 209; refine zf (zf1 (xs:=digs x.natAbs) (ys:=digs y.natAbs) L1.out L2.out) ?_; rintro e w1 ⟨ds,s1,rfl,hm1,HV1,HV2,hx1⟩) | (go_at_call 208; refine zf (zaP (ds:=ds)) ?_; rintro e w2 ⟨⟨b2,s2⟩,rfl,hz,hx2⟩; rw [HV1.out,zai,zai,HX.out] at hz))))
  all_goals go_wp2_with fail
  all_goals simp [bodyPost,results,Tryz.results138,go_sem]
  all_goals exact ⟨⟨b2,s2⟩,rfl,za,zaa⟩
 ·have hbc' : (b == c) = false := by simpa using hbc
  have hdd:(decide (x < 0) == decide (y < 0))=false:=by rw [<- hb,<- hc]; exact hbc'
  by_cases hle:y.natAbs <= x.natAbs
  ·have HX : Hid (sgn b (dval (digs (x.natAbs - y.natAbs))) = x + y) := zc (by rw [zai, hb]; exact zeR hdd hle)
   have HLE:=zc hle
   obtain ⟨t,ht⟩:∃ t,cmpN x.natAbs y.natAbs=t:=⟨_,rfl⟩
   have HT:=zc ht
   have htn:decide ((0:Int) <= t)=true:=by
    rw [<- ht]
    rcases Nat.lt_or_ge y.natAbs x.natAbs with h | h
    ·rw [zbR h]; decide
    ·rw [show x.natAbs=y.natAbs by omega,zbS]; decide
   clear hb hc hdd hle ht
   go_enter Tryz.func138,Tryz.ntmps138
   go_wp2_with fail
   refine zf (zbp (a:=x.natAbs) (b:=y.natAbs)) ?_
   rintro e wA ⟨rfl,hdr⟩
   rw [HT.out]
   have hx:Nxt _ wA:=⟨hdr.below _⟩
   clear hdr
   go_wp2_with fail
   (refine Code.nameW ?_; intro W hW; go_region_held3 (fun w'=>ButO W [w.heap.size+1+1] w') (exact zab) ((first | (go_at_call 211; refine zf (zfc (a:=x.natAbs) (b:=y.natAbs) L1.out HLE.out) ?_; rintro e w1 ⟨s1,rfl,hm1,hx1⟩) | (go_at_call 208; refine zf (zaP (ds:=digs (x.natAbs - y.natAbs))) ?_; rintro e w2 ⟨⟨b2,s2⟩,rfl,hz,hx2⟩; rw [HX.out] at hz))))
   all_goals go_wp2_with fail
   all_goals simp [bodyPost,results,Tryz.results138,go_sem]
   all_goals exact ⟨⟨b2,s2⟩,rfl,za,zaa⟩
  ·have HX:Hid (sgn c (dval (digs (y.natAbs - x.natAbs)))=x+y):=zc (by
    rw [zai,hc,Int.add_comm]
    exact zeR (by rw [<- hb,<- hc]; cases b <;> cases c <;> simp_all) (by omega))
   have HLE:=zc (show x.natAbs <= y.natAbs by omega)
   have hcm:cmpN x.natAbs y.natAbs = -1:=zb7 (by omega)
   have HT:=zc hcm
   clear hb hc hdd hle hcm
   go_enter Tryz.func138,Tryz.ntmps138
   go_wp2_with fail
   refine zf (zbp (a:=x.natAbs) (b:=y.natAbs)) ?_
   rintro e wA ⟨rfl,hdr⟩
   rw [HT.out]
   have hx:Nxt _ wA:=⟨hdr.below _⟩
   clear hdr
   go_wp2_with fail
   (refine Code.nameW ?_; intro W hW; go_region_held3 (fun w'=>ButO W [w.heap.size+1+1] w') (exact zab) ((first | (go_at_call 211; refine zf (zfc (a:=y.natAbs) (b:=x.natAbs) L2.out HLE.out) ?_; rintro e w1 ⟨s1,rfl,hm1,hx1⟩) | (go_at_call 208; refine zf (zaP (ds:=digs (y.natAbs - x.natAbs))) ?_; rintro e w2 ⟨⟨b2,s2⟩,rfl,hz,hx2⟩; rw [HX.out] at hz))))
   all_goals go_wp2_with fail
   all_goals simp [bodyPost,results,Tryz.results138,go_sem]
   all_goals exact ⟨⟨b2,s2⟩,rfl,za,zaa⟩
end
end
section
open Go.RowKit
theorem zd4 {v1 v2:Value} {a b:Nat} {w:World} [h1:DigIs w v1 a] [h2:DigIs w v2 b] (l1:dl a <= 2 ^ 24) (l2:dl b <= 2 ^ 24):Calls Tryz.prog 78 #[v1,v2] w (DRetN w (Nat.gcd a b)):=by
 obtain ⟨s,rfl,_⟩:=h1.form
 obtain ⟨t,rfl,_⟩:=h2.form
 obtain ⟨G,hG⟩:∃ G,Nat.gcd a b=G:=⟨_,rfl⟩
 rw [hG]
 have HG:=zc hG; have L1:=zc l1; have L2:=zc l2
 have H1:=zc h1; have H2:=zc h2
 clear hG l1 l2
 go_enter Tryz.func78,Tryz.ntmps78
 go_wp2_with fail
 go_loopg [0,1] (0+b) (fun gk s0 s1 wr=>∃ (m n:Nat) (A B:Option Addr) (k l c d:Nat),gk=0+n/\s0 = .slice A k c/\s1 = .slice B l d/\DigIs wr (.slice A k c) m/\DigIs wr (.slice B l d) n/\Nat.gcd m n=G/\dl m <= 2 ^ 24/\dl n <= 2 ^ 24/\Nxt w wr)
 case atStart=>exact ⟨a,b,s.A,t.A,s.k,t.k,s.c,t.c,rfl,rfl,rfl,H1.out,H2.out,HG.out,L1.out,L2.out,zaa⟩
 case round=>
  obtain ⟨m,n,A,B,k,l,c,d,rfl,rfl,rfl,hm,hn,hg,hl1,hl2,hx⟩:=hrel
  have hln:=hn.len
  have HL:=zc hl1; have HL2:=zc hl2; have HGG:=zc hg
  clear hl1 hl2 hg
  by_cases h0:n=0
  ·subst h0
   have hl0:l=0:=by rw [hln,zfZ]
   subst hl0
   clear hln
   go_wp2_with fail
   go_ret
   have:=HGG.out
   rw [Nat.gcd_zero_right] at this
   subst this
   exact ⟨⟨A,k,c⟩,rfl,hm,hx⟩
  ·have hlp : 0 < l := by rw [hln]; exact zf0 h0
   have hlp':decide ((0:Int) < (l:Int))=true:=by simp; omega
   have HN:=zc h0
   clear hln h0
   go_wp2_with fail
   refine zf (zcn (a:=m) (b:=n) HN.out HL.out) ?_
   rintro e w1 ⟨⟨A1,k1,c1⟩,⟨A2,k2,c2⟩,rfl,hq,hr,hx1⟩
   have hn1:DigIs w1 (.slice B l d) n:=za
   have hx2:Nxt w w1:=zaa
   go_wp2_with fail
   go_roundg (0+m % n)
   case rel=>exact ⟨n,m % n,B,A2,l,k2,d,c2,rfl,rfl,rfl,hn1,hr,by rw [<- HGG.out,Nat.gcd_comm m n,Nat.gcd_rec n m,Nat.gcd_comm],HL2.out,zo (zep (Nat.le_of_lt (Nat.mod_lt m (by have:=HN.out; omega)))) HL2.out,hx2⟩
   case measure=>have:=Nat.mod_lt m (show 0 < n by have:=HN.out; omega); omega
theorem zqh {x y:Int} (hy:0 < y) (hx:¬ x < 0):sgn (decide (x < 0)) (x.natAbs / y.natAbs)=x / y:=by
 obtain ⟨n,rfl⟩:=Int.eq_ofNat_of_zero_le (show 0 <= x by omega)
 obtain ⟨m,rfl⟩:=Int.eq_ofNat_of_zero_le (show 0 <= y by omega)
 have:decide ((n:Int) < 0)=false:=by simp
 rw [this]
 simp [sgn]
theorem zqi {x y:Int} (hy:0 < y) (hx:x < 0):(x.natAbs % y.natAbs=0 -> sgn (decide (x < 0)) (x.natAbs / y.natAbs)=x / y)/\(x.natAbs % y.natAbs ≠ 0 -> sgn (decide (x < 0)) (x.natAbs / y.natAbs+1)=x / y):=by
 obtain ⟨m,rfl⟩:=Int.eq_ofNat_of_zero_le (show 0 <= y by omega)
 obtain ⟨n,rfl⟩:∃ n:Nat,x = -(n:Int):=⟨x.natAbs,by omega⟩
 have hd:decide (-(n:Int) < 0)=true:=by simp; omega
 rw [hd]
 have e1:(-(n:Int)).natAbs=n:=by simp
 have e2:(m:Int).natAbs=m:=rfl
 rw [e1,e2]
 have hm:0 < m:=by omega
 have hdm:=Nat.div_add_mod n m
 have hlt:=Nat.mod_lt n hm
 constructor
 ·intro h
  rw [h,Nat.add_zero] at hdm
  have h3 : -(n:Int)=(m:Int) * (-((n / m:Nat):Int)):=by
   rw [Int.mul_neg,<- Int.natCast_mul,hdm]
  simp only [sgn,if_true]
  rw [h3,Int.mul_ediv_cancel_left _ (by omega)]
 ·intro h
  simp only [sgn,if_true]
  symm
  have h3 : -(n:Int)=(m:Int) * (-(((n / m+1:Nat)):Int))+((m - n % m:Nat):Int):=by
   have e:(m:Int) * ((n / m:Nat):Int)=((m * (n / m):Nat):Int):=by rw [Int.natCast_mul]
   rw [Int.mul_neg,Int.natCast_add,Int.mul_add,e]
   omega
  rw [h3,Int.add_comm,Int.add_mul_ediv_left _ _ (by omega),Int.ediv_eq_zero_of_lt (by omega) (by omega),Int.zero_add]
theorem zpg {v1 v2:Value} {x y:Int} {w:World} [h1:ZIs w v1 x] [h2:ZIs w v2 y] (l1:dl x.natAbs <= 2 ^ 24) (hy:0 < y):Calls Tryz.prog 182 #[v1,v2] w (ZRet w (x / y)):=by
 obtain ⟨⟨b,m⟩,rfl,HB,hd,_⟩:=h1.form
 obtain ⟨⟨c,n⟩,rfl,HC,hd2,_⟩:=h2.form
 have hb:=HB.out
 simp only at hb
 have L1:=zc l1; have HY:=zc (show y.natAbs ≠ 0 by omega)
 have hq:dl (x.natAbs / y.natAbs) <= 2 ^ 24:=zo (zep (Nat.div_le_self _ _)) l1
 have HQL:=zc hq
 have HP:Hid (¬ x < 0 -> sgn b (x.natAbs / y.natAbs)=x / y):=zc (by rw [hb]; exact zqh hy)
 have HN:Hid (x < 0 -> (x.natAbs % y.natAbs=0 -> sgn b (x.natAbs / y.natAbs)=x / y)/\(x.natAbs % y.natAbs ≠ 0 -> sgn b (x.natAbs / y.natAbs+1)=x / y)):=zc (by rw [hb]; exact zqi hy)
 have HBX:=zc hb
 clear l1 hy hq hb
 go_enter Tryz.func182,Tryz.ntmps182
 go_wp2_with fail
 refine zf (zcn (a:=x.natAbs) (b:=y.natAbs) HY.out L1.out) ?_
 rintro e w1 ⟨⟨A1,k1,c1⟩,⟨A2,k2,c2⟩,rfl,hq,hr,hx1⟩
 have hk2:=hr.len
 simp only at hk2
 have hql:=hq.list
 generalize x.natAbs / y.natAbs=q at *
 generalize x.natAbs % y.natAbs=r at *
 by_cases hneg:x < 0
 ·obtain rfl : b = true := by rw [HBX.out]; simp [hneg]
  by_cases hr0:r=0
  ·have hk0 : k2 = 0 := by rw [hk2, hr0, zfZ]
   subst hk0
   have HX:Hid (sgn true q=x / y):=zc ((HN.out hneg).1 hr0)
   clear hk2 hneg hr0
   go_wp2_with fail
   refine zf (zaP (ds:=digs q)) ?_
   rintro e w2 ⟨⟨b2,s2⟩,rfl,hz,hx2⟩
   rw [zai,HX.out] at hz
   go_wp2_with fail
   simp [bodyPost,results,Tryz.results182,go_sem]
   exact ⟨⟨b2,s2⟩,rfl,za,zaa⟩
  ·have hkp : 0 < k2 := by rw [hk2]; exact zf0 hr0
   have hkp':decide ((0:Int) < (k2:Int))=true:=by simp; omega
   have HX:Hid (sgn true (q+1)=x / y):=zc ((HN.out hneg).2 hr0)
   clear hk2 hneg hr0
   have h1o:=zmf (w:=w1) (x:=1) (by unfold B9; omega)
   have hx1o:Nxt w1 (w1.alloc (.cells #[.int .i64 ((1:Nat):Int)] 3)):=zaa
   go_wp2_with fail
   refine zf (zf1 (xs:=digs q) (ys:=[1]) (by have:=HQL.out; show dl q <= _; omega) (by simp)) ?_
   rintro e w2 ⟨ds,⟨A3,k3,c3⟩,rfl,hm1,HV1,HV2,hx2⟩
   go_wp2_with fail
   refine zf (zaP (ds:=ds)) ?_
   rintro e w3 ⟨⟨b2,s2⟩,rfl,hz,hx3⟩
   rw [HV1.out,zai,show dval [1]=1 by simp [dval],HX.out] at hz
   go_wp2_with fail
   simp [bodyPost,results,Tryz.results182,go_sem]
   exact ⟨⟨b2,s2⟩,rfl,za,zaa⟩
 ·obtain rfl : b = false := by rw [HBX.out]; simp [hneg]
  have HX:Hid (sgn false q=x / y):=zc (HP.out (by omega))
  clear hneg
  go_wp2_with fail
  refine zf (zaP (ds:=digs q)) ?_
  rintro e w2 ⟨⟨b2,s2⟩,rfl,hz,hx2⟩
  rw [zai,HX.out] at hz
  go_wp2_with fail
  simp [bodyPost,results,Tryz.results182,go_sem]
  exact ⟨⟨b2,s2⟩,rfl,za,zaa⟩
end
end Go.Proofs.YtombhkpniddceaaGreatDoor
