import Derived.Test.YtombhkpniddceaaGreatDoorM20
set_option maxHeartbeats 6400000
set_option maxRecDepth 100000
set_option linter.all false
namespace Go.Proofs.YtombhkpniddceaaGreatDoor
open Go.RowKit
def cntE (n:Nat):Int:=if n=0 then 12 else if 64 < n then 5 else 0
theorem zeF {n:Nat} {w:World}:Calls Tryz.prog 100 #[.int .i64 (n:Int)] w (PRet w (.int .i64 (cntE n))):=by
 have H1:=zc (show n=0 -> cntE n=12 from fun h=>if_pos h)
 have H2:=zc (show n ≠ 0 -> 64 < n -> cntE n=5 from fun h h2=>by unfold cntE; rw [if_neg h,if_pos h2])
 have H3:=zc (show n ≠ 0 -> ¬ 64 < n -> cntE n=0 from fun h h2=>by unfold cntE; rw [if_neg h,if_neg h2])
 go_enter Tryz.func100,Tryz.ntmps100
 go_wp2_with fail
 ·have h : n = 0 := by have h := ‹((n : Int) == 0) = true›; simpa using h
  go_ret
  exact ⟨by rw [H1.out h]; rfl,zaa⟩
 ·have h : n ≠ 0 := by have h := ‹((n : Int) == 0) = false›; simpa using h
  go_ret
  exact ⟨by rw [H2.out h (by omega)]; rfl,zaa⟩
 ·have h : n ≠ 0 := by have h := ‹((n : Int) == 0) = false›; simpa using h
  go_ret
  exact ⟨by rw [H3.out h (by omega)]; rfl,zaa⟩
def rowE (first:Nat) (r:List (List UInt8)):Int:=if cntE r.length ≠ 0 then cntE r.length else if r.length ≠ first then 2 else zay (r.map readE)
theorem zkM {w:World} {B A:Option Addr} {k c g n d first e:Nat} {r:List (List UInt8)} {C:Option Addr} (hs:SAt w B r) (hk:r.length=k) (hl:∀ x ∈ r,x.length < 2 ^ 40) (hb:Blk w g 49 #[.slice A n d]) (hn:0 < n) (hA:∃ ad,A=some ad/\w.cell? (ad.add 0)=some (.slice C first e)):
  Calls Tryz.prog 102 #[.slice B k c,.pointer (some ⟨g,0,none⟩)] w (PRet w (.int .i64 (rowE first r))):=by
 obtain ⟨ad,rfl,hcell⟩:=hA
 obtain ⟨E,hE⟩:∃ E,rowE first r=E:=⟨_,rfl⟩
 obtain ⟨E0,hE0⟩:∃ E0,cntE k=E0:=⟨_,rfl⟩
 have H1:=zc (show E0 ≠ 0 -> E=E0 from fun h=>by rw [<- hE,<- hE0]; unfold rowE; rw [hk,hE0,if_pos h])
 have H2:=zc (show E0=0 -> (k:Int) ≠ (first:Int) -> E=2 from fun h h2=>by rw [<- hE]; unfold rowE; rw [hk,hE0,if_neg (fun h3=>h3 h),if_pos (by omega)])
 have H3:=zc (show E0=0 -> (k:Int)=(first:Int) -> E=zay (r.map readE) from fun h h2=>by rw [<- hE]; unfold rowE; rw [hk,hE0,if_neg (fun h3=>h3 h),if_neg (by omega)])
 have HC:=zc (fun w=>zeF (n:=k) (w:=w))
 rw [hE0] at HC
 have hk64:E0=0 -> k <= 64:=by
  intro h
  rw [h] at hE0
  unfold cntE at hE0
  split at hE0
  ·cases hE0
  ·split at hE0
   ·cases hE0
   ·omega
 have HF:=zc (fun (h0:E0=0) (wr:World) (hx:Nxt w wr)=>zfQ (n:=104) (caps:=#[]) (w:=wr) (A:=B) (c:=c) (k:=k) (vs:=r.map str) (E:=r.map readE) (fun args w=>by kernel_rfl) (hs.nxt hx).vat (by rw [List.length_map]; exact hk) (by rw [List.length_map]; exact hk) (by have:=hk64 h0; omega) (by
  intro i v x hv hxx wq _
  obtain ⟨y,hy,rfl⟩:∃ y,r[i]?=some y/\str y=v:=by simpa using hv
  have:x=readE y:=by rw [List.getElem?_map,hy] at hxx; simpa using hxx.symm
  subst this
  exact zmp (hl y (zk hy))))
 rw [hE]
 clear hs hk hl hE hE0 hk64
 go_enter Tryz.func102,Tryz.ntmps102
 go_wp2_with fail
 refine zf (HC.out _) ?_
 rintro e1 w1 ⟨rfl,_⟩
 have hcell1:w1.cell? ad=some (.slice C first e):=zaB (w:=w) zaa (by rw [show ad.add 0=ad by unfold Addr.add; simp] at hcell; exact hcell)
 go_wp2_with fail
 ·have h0 : E0 ≠ 0 := ne_b (by assumption)
  go_ret
  exact ⟨by rw [H1.out h0]; rfl,zaa⟩
 ·have h0 : E0 = 0 := eq_b (by assumption)
  have h1:(k:Int) ≠ (first:Int):=by have h := ‹((k:Int) != (first:Int))=true›; simpa using h
  go_ret
  exact ⟨by rw [H2.out h0 h1]; rfl,zaa⟩
 ·have h0 : E0 = 0 := eq_b (by assumption)
  have h1:(k:Int)=(first:Int):=by have h := ‹((k:Int) != (first:Int))=false›; simpa using h
  refine zf (HF.out h0 _ zaa) ?_
  rintro e3 w3 ⟨rfl,_⟩
  go_wp2_with fail
  go_ret
  exact ⟨by rw [H3.out h0 h1]; rfl,zaa⟩
def matE (rows:List (List (List UInt8))):Int:=if cntE rows.length ≠ 0 then cntE rows.length else zay (rows.map (rowE (rows.headD []).length))
theorem MAt.vals {w:World} {A:Option Addr} {rows:List (List (List UInt8))} (h:MAt w A rows):∃ vs:List Value,vs.length=rows.length/\VAt w A vs/\∀ (i:Nat) (v:Value) (r:List (List UInt8)),vs[i]?=some v -> rows[i]?=some r -> ∃ B k c,v = .slice B k c/\r.length=k/\SAt w B r:=by
 obtain ⟨val,hval⟩:∃ val:Nat -> Value,∀ i,val i=(A.bind fun ad=>w.cell? (ad.add i)).getD (.bool false):=⟨_,fun _=>rfl⟩
 have hv:∀ (i:Nat) (r:List (List UInt8)),rows[i]?=some r -> ∃ ad B k c,A=some ad/\w.cell? (ad.add i)=some (val i)/\val i = .slice B k c/\r.length=k/\SAt w B r:=by
  intro i r hr
  obtain ⟨ad,B,k,c,ha,hc,hl,hs⟩:=h i r hr
  have e:val i = .slice B k c:=by rw [hval,ha]; simp [hc]
  exact ⟨ad,B,k,c,ha,by rw [e]; exact hc,e,hl,hs⟩
 refine ⟨(List.range rows.length).map val,by simp,?_,?_⟩
 ·intro i v hi
  rw [List.getElem?_map] at hi
  rcases Nat.lt_or_ge i rows.length with hlt | hge
  ·rw [List.getElem?_range hlt] at hi
   obtain rfl:val i=v:=by simpa using hi
   obtain ⟨ad,B,k,c,ha,hc,_⟩:=hv i _ (zg hlt)
   exact ⟨ad,ha,hc⟩
  ·rw [List.getElem?_eq_none (by simpa using hge)] at hi; cases hi
 ·intro i v r hi hr
  have hlt:i < rows.length:=(zh.1 hr).1
  rw [List.getElem?_map,List.getElem?_range hlt] at hi
  obtain rfl:val i=v:=by simpa using hi
  obtain ⟨ad,B,k,c,_,_,e,hl,hs⟩:=hv i r hr
  exact ⟨B,k,c,e,hl,hs⟩
theorem zbT {w:World} {A:Option Addr} {n c:Nat} {rows:List (List (List UInt8))} (hm:MAt w A rows) (hk:rows.length=n) (hn:n < 2 ^ 40) (hl:∀ r ∈ rows,∀ x ∈ r,x.length < 2 ^ 40):
  Calls Tryz.prog 36 #[.slice A n c] w (PRet w (.int .i64 (matE rows))):=by
 obtain ⟨E,hE⟩:∃ E,matE rows=E:=⟨_,rfl⟩
 obtain ⟨E0,hE0⟩:∃ E0,cntE n=E0:=⟨_,rfl⟩
 obtain ⟨f,hf⟩:∃ f,(rows.headD []).length=f:=⟨_,rfl⟩
 have H1:=zc (show E0 ≠ 0 -> E=E0 from fun h=>by rw [<- hE,<- hE0]; unfold matE; rw [hk,hE0,if_pos h])
 have H2:=zc (show E0=0 -> E=zay (rows.map (rowE f)) from fun h=>by rw [<- hE,<- hf]; unfold matE; rw [hk,hE0,if_neg (fun h3=>h3 h)])
 have HC:=zc (fun w=>zeF (n:=n) (w:=w))
 rw [hE0] at HC
 have hn0:E0=0 -> 0 < n:=by
  intro h
  rw [h] at hE0
  unfold cntE at hE0
  split at hE0
  ·cases hE0
  ·omega
 obtain ⟨vs,hvl,hva,hvr⟩:=hm.vals
 have HF:=zc (fun (h0:E0=0) (g:Nat) (wr:World) (hx:Nxt w wr) (hb:Blk wr g 49 #[.slice A n c])=>zje (n:=102) (caps:=#[.pointer (some ⟨g,0,none⟩)]) (w:=wr) (A:=A) (c:=c) (k:=n) (vs:=vs) (E:=rows.map (rowE f)) (fun args w=>by kernel_rfl) (hva.nxt hx) (by rw [hvl]; exact hk) (by rw [List.length_map]; exact hk) hn (by
  intro i v x hv hxx wq hq
  obtain ⟨r,hr⟩:∃ r,rows[i]?=some r:=by
   rw [List.getElem?_map] at hxx
   cases h:rows[i]? with
   | none=>rw [h] at hxx; cases hxx
   | some r=>exact ⟨r,rfl⟩
  have:x=rowE f r:=by rw [List.getElem?_map,hr] at hxx; simpa using hxx.symm
  subst this
  obtain ⟨B,k,cc,rfl,hkk,hs⟩:=hvr i v r hv hr
  have hz:∃ ad C e,A=some ad/\w.cell? (ad.add 0)=some (.slice C f e):=by
   obtain ⟨r0,h0r⟩:∃ r0,rows[0]?=some r0:=⟨rows[0]'(by have:=hn0 h0; omega),zg _⟩
   obtain ⟨ad,C,k0,e,ha,hc,hl0,_⟩:=hm 0 r0 h0r
   refine ⟨ad,C,e,ha,?_⟩
   rw [<- hf]
   have:rows.headD []=r0:=by cases rows with
    | nil=>simp at h0r
    | cons a t=>simpa using h0r
   rw [this,hl0]; exact hc
  obtain ⟨ad,C,e,ha,hc⟩:=hz
  exact zkM ((hs.nxt hx).nxt hq) hkk (hl r (zk hr)) (Blk.nxt (h:=hq) (k:=hb)) (hn0 h0) ⟨ad,ha,zaB hq (zaB hx hc)⟩))
 rw [hE]
 clear hm hk hl hE hE0 hf hn0 hva hvr hvl
 go_enter Tryz.func36,Tryz.ntmps36
 go_wp2_with fail
 refine zf (HC.out _) ?_
 rintro e w1 ⟨rfl,_⟩
 go_wp2_with fail
 ·have h0 : E0 ≠ 0 := ne_b (by assumption)
  go_ret
  exact ⟨by rw [H1.out h0]; rfl,zaa⟩
 ·have h0 : E0 = 0 := eq_b (by assumption)
  refine zf (HF.out h0 _ _ zaa za) ?_
  rintro e3 w3 ⟨rfl,_⟩
  go_wp2_with fail
  go_ret
  exact ⟨by rw [H2.out h0]; rfl,zaa⟩
def rflat:List RV -> List Value
 | []=>[]
 | s :: l => .bool s.n.b :: .slice s.n.m.A s.n.m.k s.n.m.c :: .slice s.d.A s.d.k s.d.c :: rflat l
theorem zcv:∀ {l:List RV} {i:Nat} {s:RV},l[i]?=some s -> (rflat l)[i * 3]?=some (.bool s.n.b)/\(rflat l)[i * 3+1]?=some (.slice s.n.m.A s.n.m.k s.n.m.c)/\(rflat l)[i * 3+2]?=some (.slice s.d.A s.d.k s.d.c)
 | [],_,_,h=>by simp at h
 | t :: l,0,s,h=>by
  obtain rfl:t=s:=by simpa using h
  exact ⟨rfl,rfl,rfl⟩
 | t :: l,i+1,s,h=>by
  have:=zcv (l:=l) (i:=i) (s:=s) (by simpa using h)
  rw [show (i+1) * 3=i * 3+3 from by omega]
  exact this
theorem zhJ:∀ {l:List RV} {i:Nat} {s:RV},(((rflat l).set (i * 3) (.bool s.n.b)).set (i * 3+1) (.slice s.n.m.A s.n.m.k s.n.m.c)).set (i * 3+2) (.slice s.d.A s.d.k s.d.c)=rflat (l.set i s)
 | [],_,_=>rfl
 | t :: l,0,s=>rfl
 | t :: l,i+1,s=>by
  have:=zhJ (l:=l) (i:=i) (s:=s)
  rw [show (i+1) * 3=i * 3+3 from by omega]
  show _ :: _ :: _ :: (((rflat l).set (i * 3) _).set (i * 3+1) _).set (i * 3+2) _=_ :: _ :: _ :: rflat (l.set i s)
  rw [this]
theorem zex:∀ {l:List RV},(rflat l).length=l.length * 3
 | []=>rfl
 | _ :: l=>by simp only [rflat,List.length_cons,zex (l:=l)]; omega
def rv0:RV:=⟨⟨false,⟨none,0,0⟩⟩,⟨none,0,0⟩⟩
def zau (l:List RV):Array Value:=(rflat l).toArray
def rzero (k:Nat):Array Value:=zau (List.replicate k rv0)
theorem zko:(Tryz.prog.info? 100).map (fun i=>(i.zero,i.size,i.bytes))=some (some (.agg #[.bool false,.slice none 0 0,.slice none 0 0]),3,56):=by kernel_rfl
theorem zlk {n j:Nat} (h:j < n * 3):(rflat (List.replicate n rv0))[j]?=(#[Value.bool false,.slice none 0 0,.slice none 0 0])[j % 3]?:=by
 have hi:(List.replicate n rv0)[j / 3]?=some rv0:=by rw [List.getElem?_replicate,if_pos (by omega)]
 obtain ⟨h0,h1,h2⟩:=zcv hi
 have hj:j=j / 3 * 3+j % 3:=by omega
 rcases (by omega:j % 3=0 ∨ j % 3=1 ∨ j % 3=2) with e | e | e
 ·rw [hj,e,Nat.add_zero,h0]; simp [rv0]
 ·rw [hj,e,h1]; simp [rv0]
 ·rw [hj,e,h2]; simp [rv0]
theorem zkk (n:Nat) (hn:n < 2 ^ 40) (w:World):
  (Instr.makeSlice 153 (.int .i64 (n:Int)) (.int .i64 (n:Int))).run Tryz.prog w = .ok (.slice (some ⟨w.heap.size,0,none⟩) n n) (w.alloc (.cells (rzero n) 100)):=by
 obtain ⟨i0,hi0,hz0,hz1,hz2⟩:=info_parts zko
 rw [run_make (P:=Tryz.prog) w 153 100 i0 (.agg #[.bool false,.slice none 0 0,.slice none 0 0]) Tryz.underlying153 hi0 hz0 .i64 .i64 n n (by omega) (by omega) (by rw [hz2]; omega) (by omega)]
 have e:madeCells (Value.agg #[.bool false,.slice none 0 0,.slice none 0 0]).cells ((n:Int).toNat * i0.size)=rzero n:=by
  rw [hz1]
  simp only [rzero,zau,madeCells,Value.cells,Int.toNat_natCast]
  apply Array.ext_getElem?
  intro k
  by_cases hk:k < n * 3
  ·rw [show (rflat (List.replicate n rv0)).toArray[k]? = (rflat (List.replicate n rv0))[k]? from List.getElem?_toArray, zlk hk]
   rw [Array.getElem?_map,Array.getElem?_range]
   have:k % 3 < 3:=Nat.mod_lt _ (by omega)
   simp [hk,this]
  ·rw [Array.getElem?_eq_none (by simp; omega),Array.getElem?_eq_none (by simp [zex]; omega)]
 rw [e]
 simp
theorem zmU {w:World} {g i:Nat} {t:TypeId} {l:List RV} {s:RV} (h:Blk w g t (zau l)):Blk (((w.setCell ⟨g,i * 3,none⟩ (.bool s.n.b)).setCell ⟨g,i * 3+1,none⟩ (.slice s.n.m.A s.n.m.k s.n.m.c)).setCell ⟨g,i * 3+2,none⟩ (.slice s.d.A s.d.k s.d.c)) g t (zau (l.set i s)):=by
 rw [show zau (l.set i s)=((((rflat l).set (i * 3) (.bool s.n.b)).set (i * 3+1) (.slice s.n.m.A s.n.m.k s.n.m.c)).set (i * 3+2) (.slice s.d.A s.d.k s.d.c)).toArray from by rw [zhJ]; rfl]
 exact zaR (zaR (zaR h))
theorem zkn {W1:World} {g i:Nat} {t:TypeId} {us:List RV} {s u:RV} (h:Blk W1 g t (zau us)) (hu:us[i]?=some u):
  (∃ V1 V2:Array Value,(zau us)[i * 3]?=some (.bool u.n.b)/\V1[i * 3+1]?=some (.slice u.n.m.A u.n.m.k u.n.m.c)/\V2[i * 3+2]?=some (.slice u.d.A u.d.k u.d.c)/\Blk W1 g t (zau us)/\Blk (W1.setCell ⟨g,i * 3,none⟩ (.bool s.n.b)) g t V1/\Blk ((W1.setCell ⟨g,i * 3,none⟩ (.bool s.n.b)).setCell ⟨g,i * 3+1,none⟩ (.slice s.n.m.A s.n.m.k s.n.m.c)) g t V2/\Blk (((W1.setCell ⟨g,i * 3,none⟩ (.bool s.n.b)).setCell ⟨g,i * 3+1,none⟩ (.slice s.n.m.A s.n.m.k s.n.m.c)).setCell ⟨g,i * 3+2,none⟩ (.slice s.d.A s.d.k s.d.c)) g t (zau (us.set i s))) /\
  (∀ v q,RatIs W1 v q -> RatIs (((W1.setCell ⟨g,i * 3,none⟩ (.bool s.n.b)).setCell ⟨g,i * 3+1,none⟩ (.slice s.n.m.A s.n.m.k s.n.m.c)).setCell ⟨g,i * 3+2,none⟩ (.slice s.d.A s.d.k s.d.c)) v q)/\True:=by
 obtain ⟨h0,h1,h2⟩:=zcv hu
 have b1:=zaR (i:=i * 3) (x := .bool s.n.b) h
 have b2:=zaR (i:=i * 3+1) (x := .slice s.n.m.A s.n.m.k s.n.m.c) b1
 have k0:(zau us)[i * 3]?=some (.bool u.n.b):=by rw [zau,List.getElem?_toArray,h0]
 have k1:((rflat us).set (i * 3) (.bool s.n.b)).toArray[i * 3+1]?=some (.slice u.n.m.A u.n.m.k u.n.m.c):=by rw [List.getElem?_toArray,List.getElem?_set_ne (by omega),h1]
 have k2:(((rflat us).set (i * 3) (.bool s.n.b)).set (i * 3+1) (.slice s.n.m.A s.n.m.k s.n.m.c)).toArray[i * 3+2]?=some (.slice u.d.A u.d.k u.d.c):=by rw [List.getElem?_toArray,List.getElem?_set_ne (by omega),List.getElem?_set_ne (by omega),h2]
 refine ⟨⟨_,_,k0,k1,k2,h,b1,b2,zmU h⟩,fun v q hv=>?_,trivial⟩
 exact ((hv.setOwn h ⟨by rw [k0]; simp⟩).setOwn b1 ⟨by rw [k1]; simp⟩).setOwn b2 ⟨by rw [k2]; simp⟩
theorem zmo {A:Option Addr} {c k:Nat} {ws:List (List UInt8)} {w:World}
  (hv:SAt w A ws) (hk:ws.length=k) (hn:k < 2 ^ 40) (hl:∀ l ∈ ws,l.length < 2 ^ 40) (hok:∀ l ∈ ws,readE l=0):
  Calls Tryz.prog 240 #[.slice A k c,.func (.func 70) #[] #[]] w (fun e w'=>∃ us:List RV,e = .returned (.tuple #[.slice (some ⟨w.heap.size,0,none⟩) k k,.int .i64 0])/\Blk w' w.heap.size 100 (zau us)/\us.length=k/\(∀ (i:Nat) (u:RV) (x:List UInt8),us[i]?=some u -> ws[i]?=some x -> RatIs w' u.v (readQ x))/\Nxt w w'):=by
 have hmk:∀ w,(Instr.makeSlice 153 (.int .i64 (k:Int)) (.int .i64 (k:Int))).run Tryz.prog w = .ok (.slice (some ⟨w.heap.size,0,none⟩) k k) (w.alloc (.cells (rzero k) 100)):=zkk k hn
 have HV:=zc hv; have HK:=zc hk; have HN:=zc hn; have HL:=zc hl; have HOK:=zc hok
 clear hv hk hn hl hok
 go_enter Tryz.func240,Tryz.ntmps240
 go_wp2_with fail
 have h0:Blk (w.alloc (.cells (rzero k) 100)) w.heap.size 100 (rzero k):=Blk.new
 have hb0:Nxt w (w.alloc (.cells (rzero k) 100)):=zaa
 generalize w.alloc (.cells (rzero k) 100)=W at *
 have H0:=zc h0; have HB0:=zc hb0
 clear h0 hb0 hmk
 go_loopw [16] (fun s16 wr=>∃ (i:Nat) (us:List RV),s16 = .int .i64 (i:Int)/\i <= k/\us.length=k/\Blk wr w.heap.size 100 (zau us)/\(∀ (j:Nat) (u:RV) (x:List UInt8),j < i -> us[j]?=some u -> ws[j]?=some x -> RatIs wr u.v (readQ x))/\Nxt w wr) (fun s16 _=>k - (intOf s16).toNat)
 case atStart=>exact ⟨0,List.replicate k rv0,rfl,Nat.zero_le _,by simp,H0.out,fun _ _ _ h=>absurd h (by omega),HB0.out⟩
 case round=>
  obtain ⟨i,us,rfl,hi,hl,h1,hok,hd⟩:=hrel
  have HO:=zc hok
  clear hok
  by_cases hin:i < k
  ·have hlt : decide ((i : Int) < (k : Int)) = true := by simp; omega
   have hlt':(i:Int) < (k:Int):=by omega
   have hadd:IntKind.i64.wrap ((i:Int)+1)=((i+1:Nat):Int):=by have:=HN.out; rw [zx]; omega
   obtain ⟨x,hx⟩:∃ x,ws[i]?=some x:=⟨ws[i]'(by rw [HK.out]; exact hin),zg _⟩
   obtain ⟨ad,rfl,k1⟩:=HV.out i x hx
   have k3:wr.cell? (ad.add i)=some (str x):=zaB hd k1
   have hmem:x ∈ ws:=zk hx
   have hc:=zdJ (l:=x) (w:=wr) (HL.out x hmem)
   rw [HOK.out x hmem] at hc
   have HCI:=zc hc
   have HLU:=zc hl; have HX:=zc hx; have H1:=zc h1; have HD:=zc hd
   clear hx k1 hc hl
   go_wp2_with fail
   refine zf HCI.out ?_
   rintro e w5 ⟨s,rfl,hq,hx⟩
   have h5:Blk w5 w.heap.size 100 (zau us):=Blk.nxt
   obtain ⟨u,hu⟩:∃ u,us[i]?=some u:=⟨us[i]'(by rw [HLU.out]; exact hin),zg _⟩
   obtain ⟨W1,hW1⟩:∃ W1,W1=w5.alloc (.cells #[.bool s.n.b,.slice s.n.m.A s.n.m.k s.n.m.c,.slice s.d.A s.d.k s.d.c] 100):=⟨_,rfl⟩
   obtain ⟨m1,m2,m3⟩:=zkn (s:=s) (W1:=W1) (g:=w.heap.size) (show Blk W1 w.heap.size 100 (zau us) by rw [hW1]; infer_instance) hu
   obtain ⟨V1,V2,e0,e1,e2,b0,b1,b2,b3⟩:=m1
   have hx5:Nxt w5 W1:=by rw [hW1]; exact zaa
   have hb:Nxt w (((W1.setCell ⟨w.heap.size,i * 3,none⟩ (.bool s.n.b)).setCell ⟨w.heap.size,i * 3+1,none⟩ (.slice s.n.m.A s.n.m.k s.n.m.c)).setCell ⟨w.heap.size,i * 3+2,none⟩ (.slice s.d.A s.d.k s.d.c)):=by rw [hW1]; exact zaa
   have hall:∀ (j:Nat) (u:RV) (x:List UInt8),j < i+1 -> (us.set i s)[j]?=some u -> ws[j]?=some x -> RatIs (((W1.setCell ⟨w.heap.size,i * 3,none⟩ (.bool s.n.b)).setCell ⟨w.heap.size,i * 3+1,none⟩ (.slice s.n.m.A s.n.m.k s.n.m.c)).setCell ⟨w.heap.size,i * 3+2,none⟩ (.slice s.d.A s.d.k s.d.c)) u.v (readQ x):=by
    intro j v y hj hv hy
    refine m2 _ _ ?_
    rw [List.getElem?_set] at hv
    by_cases hij:i=j
    ·subst hij
     have hlt2:i < us.length:=by rw [HLU.out]; exact hin
     simp [hlt2] at hv
     subst hv
     rw [HX.out] at hy
     obtain rfl:=zl hy
     exact hq.below hx5.out
    ·rw [if_neg hij] at hv
     exact ((HO.out j v y (by omega) hv hy).below hx.out).below hx5.out
   have HALL:=zc hall; have HB:=zc hb; have H3:=zc b3; have HU:=zc hu
   clear hall hb b3 m2 m3 hq hu
   subst hW1
   go_wp2_with fail
   go_roundw
   case rel=>exact ⟨i+1,us.set i s,rfl,hin,by simp [HLU.out],H3.out,HALL.out,HB.out⟩
   case measure=>simp [intOf]; omega
  ·have hlt : decide ((i : Int) < (k : Int)) = false := by simp; omega
   have hlt':¬ (i:Int) < (k:Int):=by omega
   obtain rfl:i=k:=by omega
   have H1:=zc h1; have HD:=zc hd; have HLU:=zc hl
   clear h1 hd hl
   go_wp2_with fail
   go_ret2
   exact ⟨rfl,us,H1.out,HLU.out,fun j u x hu hx=>HO.out j u x (by
    rcases Nat.lt_or_ge j us.length with h | h
    ·rw [HLU.out] at h; exact h
    ·rw [List.getElem?_eq_none h] at hu; cases hu) hu hx,HD.out⟩
def RAt (w:World) (v:Value) (qs:List Rat):Prop:=∃ (g:Nat) (us:List RV),v = .slice (some ⟨g,0,none⟩) qs.length qs.length/\Blk w g 100 (zau us)/\us.length=qs.length/\∀ (i:Nat) (u:RV) (q:Rat),us[i]?=some u -> qs[i]?=some q -> RatIs w u.v q
theorem RAt.nxt {w w':World} {v:Value} {qs:List Rat} (h:RAt w v qs) (hn:Nxt w w'):RAt w' v qs:=by
 obtain ⟨g,us,hv,hb,hl,hq⟩:=h
 exact ⟨g,us,hv,Blk.nxt,hl,fun i u q h1 h2=>(hq i u q h1 h2).below hn.out⟩
theorem RAt.made {w w':World} {k:Nat} {us:List RV} {ws:List (List UInt8)} (hk:ws.length=k) (hb:Blk w' w.heap.size 100 (zau us)) (hl:us.length=k) (hq:∀ (i:Nat) (u:RV) (x:List UInt8),us[i]?=some u -> ws[i]?=some x -> RatIs w' u.v (readQ x)):RAt w' (.slice (some ⟨w.heap.size,0,none⟩) k k) (ws.map readQ):=by
 refine ⟨w.heap.size,us,by simp [hk],hb,by simp [hk,hl],fun i u q h1 h2=>?_⟩
 obtain ⟨x,hx,rfl⟩:∃ x,ws[i]?=some x/\readQ x=q:=by simpa using h2
 exact hq i u x h1 hx
theorem zmC {A:Option Addr} {c k:Nat} {ws:List (List UInt8)} {w:World}
  (hv:SAt w A ws) (hk:ws.length=k) (hn:k < 2 ^ 40) (hl:∀ l ∈ ws,l.length < 2 ^ 40) (hok:∀ l ∈ ws,readE l=0):
  Calls Tryz.prog 198 #[.slice A k c] w (fun e w'=>e = .returned (.tuple #[.slice (some ⟨w.heap.size,0,none⟩) k k,.int .i64 0])/\RAt w' (.slice (some ⟨w.heap.size,0,none⟩) k k) (ws.map readQ)/\Nxt w w'):=by
 have HC:=zc (zmo (c:=c) hv hk hn hl hok); have HK:=zc hk
 clear hv hk hn hl hok
 go_enter Tryz.func198,Tryz.ntmps198
 go_wp2_with fail
 refine zf HC.out ?_
 rintro e w5 ⟨us,rfl,hb,hl,hq,hx⟩
 have HR:=zc (RAt.made HK.out hb hl hq); have HX:=zc hx
 clear hb hl hq hx
 go_wp2_with fail
 go_ret2
 exact ⟨rfl,HR.out,HX.out⟩
theorem zfk {A:Option Addr} {c k:Nat} {ws:List (List UInt8)} {w:World}
  (hv:SAt w A ws) (hk:ws.length=k) (hn:k < 2 ^ 40) (hl:∀ l ∈ ws,l.length < 2 ^ 40) (hok:∀ l ∈ ws,readE l=0):
  Calls Tryz.prog 119 #[.slice A k c] w (fun e w'=>e = .returned (.slice (some ⟨w.heap.size,0,none⟩) k k)/\RAt w' (.slice (some ⟨w.heap.size,0,none⟩) k k) (ws.map readQ)/\Nxt w w'):=by
 have HC:=zc (zmC (c:=c) hv hk hn hl hok)
 clear hv hk hn hl hok
 go_enter Tryz.func119,Tryz.ntmps119
 go_wp2_with fail
 refine zf HC.out ?_
 rintro e w5 ⟨rfl,hr,hx⟩
 have HR:=zc hr; have HX:=zc hx
 clear hr hx
 go_wp2_with fail
 go_ret
 exact ⟨rfl,HR.out,HX.out⟩
theorem Blk.apart_type {w:World} {g h:Nat} {t u:TypeId} {vs us:Array Value} (h1:Blk w g t vs) (h2:Blk w h u us) (ht:t ≠ u):Apart g h:=⟨fun e=>by
 subst e
 have:=h1.out.symm.trans h2.out
 injection this with this
 injection this with _ this
 exact ht this⟩
theorem RAt.set_ {w:World} {v:Value} {qs:List Rat} {g j:Nat} {t:TypeId} {vs:Array Value} {x:Value} (h:RAt w v qs) (hb:Blk w g t vs) (ht:100 ≠ t) (hn:zaj vs j):RAt (w.setCell ⟨g,j,none⟩ x) v qs:=by
 obtain ⟨g1,us,hv,h1,hl,hq⟩:=h
 exact ⟨g1,us,hv,Blk.far (k:=h1) (h:=h1.apart_type hb ht),hl,fun i u q h1 h2=>(hq i u q h1 h2).setOwn hb hn⟩
def RMAt (w:World) (v:Value) (qss:List (List Rat)):Prop:=∃ (g:Nat) (us:List Value),v = .slice (some ⟨g,0,none⟩) qss.length qss.length/\Blk w g 153 us.toArray/\us.length=qss.length/\∀ (i:Nat) (u:Value) (qs:List Rat),us[i]?=some u -> qss[i]?=some qs -> RAt w u qs
theorem RMAt.nxt {w w':World} {v:Value} {qss:List (List Rat)} (h:RMAt w v qss) (hn:Nxt w w'):RMAt w' v qss:=by
 obtain ⟨g,us,hv,hb,hl,hq⟩:=h
 exact ⟨g,us,hv,Blk.nxt,hl,fun i u q h1 h2=>(hq i u q h1 h2).nxt hn⟩
theorem zlQ (rows:List (List (List UInt8))):Kept 153 fun i v w=>∀ r,rows[i]?=some r -> RAt w v (r.map readQ):=
 ⟨fun h hn r hr=>(h r hr).nxt hn,fun h hb hn r hr=>(h r hr).set_ hb (by decide) hn⟩
theorem zeA {w:World} {A:Option Addr} {n c:Nat} {rows:List (List (List UInt8))} (hm:MAt w A rows) (hk:rows.length=n) (hn:n < 2 ^ 40) (hr:∀ r ∈ rows,r.length < 2 ^ 40) (hl:∀ r ∈ rows,∀ x ∈ r,x.length < 2 ^ 40) (hok:∀ r ∈ rows,∀ x ∈ r,readE x=0):
  Calls Tryz.prog 118 #[.slice A n c,.func (.func 119) #[] #[]] w (fun e w'=>e = .returned (.slice (some ⟨w.heap.size,0,none⟩) n n)/\RMAt w' (.slice (some ⟨w.heap.size,0,none⟩) n n) (rows.map (·.map readQ))/\Nxt w w'):=by
 obtain ⟨vs,hvl,hva,hvr⟩:=hm.vals
 refine zf (zlJ (n:=119) (caps:=#[]) (k:=n) (c:=c) (fun args w=>by kernel_rfl) hva (by rw [hvl,hk]) hn (zlQ rows) ?_) ?_
 ·intro i v hv wr hx
  obtain ⟨r,hr2⟩:∃ r,rows[i]?=some r:=⟨rows[i]'(by rw [<- hvl]; exact (zh.1 hv).1),zg _⟩
  obtain ⟨B,k,cc,rfl,hkk,hs⟩:=hvr i v r hv hr2
  have hmem:=zk hr2
  refine zf (zfk (c:=cc) (hs.nxt hx) hkk (by rw [<- hkk]; exact hr r hmem) (hl r hmem) (hok r hmem)) ?_
  rintro e w' ⟨rfl,h1,h2⟩
  exact ⟨_,_,_,rfl,fun r' hr'=>by rw [hr2] at hr'; obtain rfl:=zl hr'; exact h1,h2⟩
 ·rintro e w' ⟨us, rfl, hb, hul, hq, hx⟩
  refine ⟨rfl,⟨w.heap.size,us,by simp [hk],hb,by simp [hk,hul],fun i u qs h1 h2=>?_⟩,hx⟩
  obtain ⟨r,hr2,rfl⟩:∃ r,rows[i]?=some r/\r.map readQ=qs:=by simpa using h2
  exact hq i u h1 r hr2
def zflat:List IV -> List Value
 | []=>[]
 | s :: l => .bool s.b :: .slice s.m.A s.m.k s.m.c :: zflat l
theorem zci:∀ {l:List IV} {i:Nat} {s:IV},l[i]?=some s -> (zflat l)[i * 2]?=some (.bool s.b)/\(zflat l)[i * 2+1]?=some (.slice s.m.A s.m.k s.m.c)
 | [],_,_,h=>by simp at h
 | t :: l,0,s,h=>by
  obtain rfl:t=s:=by simpa using h
  exact ⟨rfl,rfl⟩
 | t :: l,i+1,s,h=>by
  have:=zci (l:=l) (i:=i) (s:=s) (by simpa using h)
  rw [show (i+1) * 2=i * 2+2 from by omega]
  exact this
theorem zht:∀ {l:List IV} {i:Nat} {s:IV},((zflat l).set (i * 2) (.bool s.b)).set (i * 2+1) (.slice s.m.A s.m.k s.m.c)=zflat (l.set i s)
 | [],_,_=>rfl
 | t :: l,0,s=>rfl
 | t :: l,i+1,s=>by
  have:=zht (l:=l) (i:=i) (s:=s)
  rw [show (i+1) * 2=i * 2+2 from by omega]
  show _ :: _ :: ((zflat l).set (i * 2) _).set (i * 2+1) _=_ :: _ :: zflat (l.set i s)
  rw [this]
theorem zes:∀ {l:List IV},(zflat l).length=l.length * 2
 | []=>rfl
 | _ :: l=>by simp only [zflat,List.length_cons,zes (l:=l)]; omega
def zv0:IV:=⟨false,⟨none,0,0⟩⟩
def zaI (l:List IV):Array Value:=(zflat l).toArray
def zzero (k:Nat):Array Value:=zaI (List.replicate k zv0)
theorem zkU:(Tryz.prog.info? 98).map (fun i=>(i.zero,i.size,i.bytes))=some (some (.agg #[.bool false,.slice none 0 0]),2,32):=by kernel_rfl
theorem zkV {n j:Nat} (h:j < n * 2):(zflat (List.replicate n zv0))[j]?=(#[Value.bool false,.slice none 0 0])[j % 2]?:=by
 have hi:(List.replicate n zv0)[j / 2]?=some zv0:=by rw [List.getElem?_replicate,if_pos (by omega)]
 obtain ⟨h0,h1⟩:=zci hi
 have hj:j=j / 2 * 2+j % 2:=by omega
 rcases (by omega:j % 2=0 ∨ j % 2=1) with e | e
 ·rw [hj,e,Nat.add_zero,h0]; simp [zv0]
 ·rw [hj,e,h1]; simp [zv0]
theorem zjN (n:Nat) (hn:n < 2 ^ 40) (w:World):
  (Instr.makeSlice 136 (.int .i64 (n:Int)) (.int .i64 (n:Int))).run Tryz.prog w = .ok (.slice (some ⟨w.heap.size,0,none⟩) n n) (w.alloc (.cells (zzero n) 98)):=by
 obtain ⟨i0,hi0,hz0,hz1,hz2⟩:=info_parts zkU
 rw [run_make (P:=Tryz.prog) w 136 98 i0 (.agg #[.bool false,.slice none 0 0]) Tryz.underlying136 hi0 hz0 .i64 .i64 n n (by omega) (by omega) (by rw [hz2]; omega) (by omega)]
 have e:madeCells (Value.agg #[.bool false,.slice none 0 0]).cells ((n:Int).toNat * i0.size)=zzero n:=by
  rw [hz1]
  simp only [zzero,zaI,madeCells,Value.cells,Int.toNat_natCast]
  apply Array.ext_getElem?
  intro k
  by_cases hk:k < n * 2
  ·rw [show (zflat (List.replicate n zv0)).toArray[k]? = (zflat (List.replicate n zv0))[k]? from List.getElem?_toArray, zkV hk]
   rw [Array.getElem?_map,Array.getElem?_range]
   have:k % 2 < 2:=Nat.mod_lt _ (by omega)
   simp [hk,this]
  ·rw [Array.getElem?_eq_none (by simp; omega),Array.getElem?_eq_none (by simp [zes]; omega)]
 rw [e]
 simp
theorem zeO {W1:World} {g i:Nat} {t:TypeId} {us:List IV} {s u:IV} (h:Blk W1 g t (zaI us)) (hu:us[i]?=some u):
  (∃ V1:Array Value,(zaI us)[i * 2]?=some (.bool u.b)/\V1[i * 2+1]?=some (.slice u.m.A u.m.k u.m.c)/\Blk W1 g t (zaI us)/\Blk (W1.setCell ⟨g,i * 2,none⟩ (.bool s.b)) g t V1/\Blk ((W1.setCell ⟨g,i * 2,none⟩ (.bool s.b)).setCell ⟨g,i * 2+1,none⟩ (.slice s.m.A s.m.k s.m.c)) g t (zaI (us.set i s))) /\
  (∀ v z,IntIs W1 v z -> IntIs ((W1.setCell ⟨g,i * 2,none⟩ (.bool s.b)).setCell ⟨g,i * 2+1,none⟩ (.slice s.m.A s.m.k s.m.c)) v z) /\
  (∀ v z,RatIs W1 v z -> RatIs ((W1.setCell ⟨g,i * 2,none⟩ (.bool s.b)).setCell ⟨g,i * 2+1,none⟩ (.slice s.m.A s.m.k s.m.c)) v z):=by
 obtain ⟨h0,h1⟩:=zci hu
 have b1:=zaR (i:=i * 2) (x := .bool s.b) h
 have b2:=zaR (i:=i * 2+1) (x := .slice s.m.A s.m.k s.m.c) b1
 have k0:(zaI us)[i * 2]?=some (.bool u.b):=by rw [zaI,List.getElem?_toArray,h0]
 have k1:((zflat us).set (i * 2) (.bool s.b)).toArray[i * 2+1]?=some (.slice u.m.A u.m.k u.m.c):=by rw [List.getElem?_toArray,List.getElem?_set_ne (by omega),h1]
 refine ⟨⟨_,k0,k1,h,b1,by rw [zht] at b2; exact b2⟩,fun v z hv=>?_,fun v z hv=>?_⟩
 ·exact (hv.setOwn h ⟨by rw [k0]; simp⟩).setOwn b1 ⟨by rw [k1]; simp⟩
 ·exact (hv.setOwn h ⟨by rw [k0]; simp⟩).setOwn b1 ⟨by rw [k1]; simp⟩
def ZAt (w:World) (v:Value) (zs:List Int):Prop:=∃ (g:Nat) (us:List IV),v = .slice (some ⟨g,0,none⟩) zs.length zs.length/\Blk w g 98 (zaI us)/\us.length=zs.length/\∀ (i:Nat) (u:IV) (z:Int),us[i]?=some u -> zs[i]?=some z -> IntIs w u.v z
theorem ZAt.nxt {w w':World} {v:Value} {zs:List Int} (h:ZAt w v zs) (hn:Nxt w w'):ZAt w' v zs:=by
 obtain ⟨g,us,hv,hb,hl,hq⟩:=h
 exact ⟨g,us,hv,Blk.nxt,hl,fun i u q h1 h2=>(hq i u q h1 h2).below hn.out⟩
theorem ZAt.set_ {w:World} {v:Value} {zs:List Int} {g j:Nat} {t:TypeId} {vs:Array Value} {x:Value} (h:ZAt w v zs) (hb:Blk w g t vs) (ht:98 ≠ t) (hn:zaj vs j):ZAt (w.setCell ⟨g,j,none⟩ x) v zs:=by
 obtain ⟨g1,us,hv,h1,hl,hq⟩:=h
 exact ⟨g1,us,hv,Blk.far (k:=h1) (h:=h1.apart_type hb ht),hl,fun i u q h1 h2=>(hq i u q h1 h2).setOwn hb hn⟩
theorem zhY {n:FuncId} {caps:Array Value} {v:Value} {qs:List Rat} {F:Rat -> Int} {k:Nat} {w:World} (hrun:∀ (args:Array Value) (w:World),Sem.run Tryz.prog (callFunc n args) w = .ok (.enter n args) w)
  (hv:RAt w v qs) (hk:qs.length=k) (hn:k < 2 ^ 40) (hcall:∀ (q:Rat),q ∈ qs -> ∀ (wr:World) (u:RV),Nxt w wr -> RatIs wr u.v q -> Calls Tryz.prog n (#[u.v] ++ caps) wr (IRet wr (F q))):
  Calls Tryz.prog 191 #[v,.func (.func n) #[] caps] w (fun e w'=>e = .returned (.slice (some ⟨w.heap.size,0,none⟩) k k)/\ZAt w' (.slice (some ⟨w.heap.size,0,none⟩) k k) (qs.map F)/\Nxt w w'):=by
 have hmk:∀ w,(Instr.makeSlice 136 (.int .i64 (k:Int)) (.int .i64 (k:Int))).run Tryz.prog w = .ok (.slice (some ⟨w.heap.size,0,none⟩) k k) (w.alloc (.cells (zzero k) 98)):=zjN k hn
 obtain ⟨gx,ux,rfl,hbx,hul,huq⟩:=hv
 rw [hk] at hul ⊢
 have HROW:=zc (fun (i:Nat) (hi:i < k)=>show ∃ (q:Rat) (u:RV),qs[i]?=some q/\(zau ux)[i * 3]?=some (.bool u.n.b)/\(zau ux)[i * 3+1]?=some (.slice u.n.m.A u.n.m.k u.n.m.c)/\(zau ux)[i * 3+2]?=some (.slice u.d.A u.d.k u.d.c)/\RatIs w u.v q/\(∀ (wr:World),Nxt w wr -> RatIs wr u.v q -> Calls Tryz.prog n (#[u.v] ++ caps) wr (IRet wr (F q))) from by
  have hq:qs[i]?=some (qs[i]'(by omega)):=zg _
  have hu:ux[i]?=some (ux[i]'(by omega)):=zg _
  obtain ⟨h0,h1,h2⟩:=zcv hu
  exact ⟨_,_,hq,by rw [zau,List.getElem?_toArray,h0],by rw [zau,List.getElem?_toArray,h1],by rw [zau,List.getElem?_toArray,h2],huq i _ _ hu hq,fun wr h1 h2=>hcall _ (zk hq) wr _ h1 h2⟩)
 have HN:=zc hn; have HK:=zc hk
 clear hn hcall hul huq hk
 go_enter Tryz.func191,Tryz.ntmps191
 go_wp2_with fail
 have h0:Blk (w.alloc (.cells (zzero k) 98)) w.heap.size 98 (zzero k):=Blk.new
 have hb0:Nxt w (w.alloc (.cells (zzero k) 98)):=zaa
 generalize w.alloc (.cells (zzero k) 98)=W at *
 have H0:=zc h0; have HB0:=zc hb0
 clear h0 hb0 hmk
 go_loopw [13] (fun s13 wr=>∃ (i:Nat) (us:List IV),s13 = .int .i64 (i:Int)/\i <= k/\us.length=k/\Blk wr w.heap.size 98 (zaI us)/\(∀ (j:Nat) (u:IV) (z:Int),j < i -> us[j]?=some u -> (qs.map F)[j]?=some z -> IntIs wr u.v z)/\Nxt w wr) (fun s13 _=>k - (intOf s13).toNat)
 case atStart=>exact ⟨0,List.replicate k zv0,rfl,Nat.zero_le _,by simp,H0.out,fun _ _ _ h=>absurd h (by omega),HB0.out⟩
 case round=>
  obtain ⟨i,us,rfl,hi,hl,h1,hok,hd⟩:=hrel
  have HO:=zc hok
  clear hok
  by_cases hin:i < k
  ·have hlt : decide ((i : Int) < (k : Int)) = true := by simp; omega
   have hlt':(i:Int) < (k:Int):=by omega
   have hadd:IntKind.i64.wrap ((i:Int)+1)=((i+1:Nat):Int):=by have:=HN.out; rw [zx]; omega
   obtain ⟨q,u0,hq,a0,a1,a2,a3,hc⟩:=HROW.out i hin
   have HLU:=zc hl; have HQ:=zc hq; have HC:=zc hc; have HIN:=zc hin
   clear hc hl hq
   go_wp2_with fail
   refine zf (HC.out _ zaa za) ?_
   rintro e w5 ⟨s,rfl,hz,hx⟩
   have h5:Blk w5 w.heap.size 98 (zaI us):=za
   have hxr:Nxt wr w5:=zaa
   obtain ⟨u,hu⟩:∃ u,us[i]?=some u:=⟨us[i]'(by rw [HLU.out]; exact HIN.out),zg _⟩
   obtain ⟨m1,m2,_⟩:=zeO (s:=s) (W1:=w5) (g:=w.heap.size) h5 hu
   obtain ⟨V1,e0,e1,b0,b1,b2⟩:=m1
   have hb:Nxt w ((w5.setCell ⟨w.heap.size,i * 2,none⟩ (.bool s.b)).setCell ⟨w.heap.size,i * 2+1,none⟩ (.slice s.m.A s.m.k s.m.c)):=zaa
   have hall:∀ (j:Nat) (u:IV) (z:Int),j < i+1 -> (us.set i s)[j]?=some u -> (qs.map F)[j]?=some z -> IntIs ((w5.setCell ⟨w.heap.size,i * 2,none⟩ (.bool s.b)).setCell ⟨w.heap.size,i * 2+1,none⟩ (.slice s.m.A s.m.k s.m.c)) u.v z:=by
    intro j v y hj hv hy
    refine m2 _ _ ?_
    rw [List.getElem?_set] at hv
    by_cases hij:i=j
    ·subst hij
     have hlt2:i < us.length:=by rw [HLU.out]; exact HIN.out
     simp [hlt2] at hv
     subst hv
     rw [List.getElem?_map,HQ.out] at hy
     obtain rfl:F q=y:=by simpa using hy
     exact hz
    ·rw [if_neg hij] at hv
     exact (HO.out j v y (by omega) hv hy).below hxr.out
   have HALL:=zc hall; have HB:=zc hb; have H3:=zc b2
   clear hall hb b2 m2 hz hu
   go_wp2_with fail
   go_roundw
   case rel=>exact ⟨i+1,us.set i s,rfl,hin,by simp [HLU.out],H3.out,HALL.out,HB.out⟩
   case measure=>simp [intOf]; omega
  ·have hlt : decide ((i : Int) < (k : Int)) = false := by simp; omega
   have hlt':¬ (i:Int) < (k:Int):=by omega
   obtain rfl:i=k:=by omega
   have H1:=zc h1; have HD:=zc hd; have HLU:=zc hl
   clear h1 hd hl
   go_wp2_with fail
   go_ret
   exact ⟨rfl,⟨w.heap.size,us,by simp [HK.out],H1.out,by simp [HLU.out,HK.out],fun j u z hu hz=>HO.out j u z (by
    have h:=(zh.1 hu).1
    rw [HLU.out] at h; exact h) hu hz⟩,HD.out⟩
end Go.Proofs.YtombhkpniddceaaGreatDoor
