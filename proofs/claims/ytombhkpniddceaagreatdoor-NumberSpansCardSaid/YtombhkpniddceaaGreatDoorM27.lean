import Derived.Test.YtombhkpniddceaaGreatDoorM26
set_option maxHeartbeats 25600000
set_option maxRecDepth 100000
set_option synthInstance.maxSize 20000
set_option linter.all false
namespace Go.Proofs.YtombhkpniddceaaGreatDoor
open Go.RowKit
theorem NatIs.butW {W w':World} {v:Value} {n g:Nat} {t:TypeId} {vs:Array Value} (h:NatIs W v n) (k:But W [g] w') (hb:Blk W g t vs) (hw:∀ i,zaj vs i):NatIs w' v n:=by
 obtain ⟨A,c,e,h1,h2,h3⟩:=h
 refine ⟨A,c,e,h1,h2,h3.lt,fun j u hu=>?_⟩
 obtain ⟨ad,e,hl,hc⟩:=h3.at_ j u hu
 refine ⟨ad,e,Nat.lt_of_lt_of_le hl k.size,?_⟩
 have hbk:(ad.add j).block=ad.block:=zaw _ _
 by_cases hg:ad.block=g
 ·exfalso
  unfold World.cell? at hc
  rw [hbk,hg,hb.out] at hc
  have h:=hc
  simp at h
  exact (hw _).out _ h.2
 ·unfold World.cell? at hc ⊢
  rw [hbk] at hc ⊢
  rw [k.block _ hl (by simpa using hg)]
  exact hc
theorem IntIs.butW {W w':World} {v:Value} {z:Int} {g:Nat} {t:TypeId} {vs:Array Value} (h:IntIs W v z) (k:But W [g] w') (hb:Blk W g t vs) (hw:∀ i,zaj vs i):IntIs w' v z:=by
 obtain ⟨m,e,hm⟩:=h
 exact ⟨m,e,hm.butW k hb hw⟩
theorem ZAt.butW {W w':World} {v:Value} {zs:List Int} {g:Nat} {t:TypeId} {vs:Array Value} (h:ZAt W v zs) (k:But W [g] w') (hb:Blk W g t vs) (hw:∀ i,zaj vs i) (ht:98 ≠ t):ZAt w' v zs:=by
 obtain ⟨g1,us,hv,h1,hl,hq⟩:=h
 exact ⟨g1,us,hv,zaY h1 k (by simp; exact (h1.apart_type hb ht).out),hl,fun i u q h1 h2=>(hq i u q h1 h2).butW k hb hw⟩
theorem zeJ {w:World} {ops:Array Oper} {rest:List Oper} {o:Oper} {a:Act} {Q:Exit -> Act -> World -> Prop} (hgd:o.guard=none) (d s:Operand)
  (ho:o.op = .call { callee := .builtin .copy,args:=#[d,s],argTypes:=#[134,134] })
  (g gm r:Nat) (us old:List Value) (hd:a.eval d = .slice (some ⟨g,0,none⟩) r r) (hs:a.eval s = .slice (some ⟨gm,0,none⟩) r r)
  (hb:Blk w g 136 old.toArray) (hol:old.length=r) (hm:Blk w gm 136 us.toArray) (hul:us.length=r) (h1:∀ v ∈ us,v.oneCell'=true)
  (h:∀ w',Blk w' g 136 us.toArray -> But w [g] w' -> wpList Tryz.prog ops Q rest (a.put o.dst (goInt r)) w'):wpList Tryz.prog ops Q (o :: rest) a w:=by
 have hl:=wpList_copy_own (P:=Tryz.prog) (rest:=rest) (ops:=ops) (Q:=Q) hgd d s _ _ ho 136 Tryz.underlying134 (by kernel_rfl) g 0 r r ⟨gm,0,none⟩ r r hd hs old.toArray 136 hb.out us (by rw [hul]; exact (Nat.min_self r).symm) (fun j v hv=>by
  have e:(⟨gm,0,none⟩:Addr).add j=⟨gm,j,none⟩:=by unfold Addr.add; split <;> simp_all
  rw [e]
  exact (Blk.cell (k:=hm) (i:=j)).trans (by rw [List.getElem?_toArray]; exact hv)) (by simp; omega) h1
 refine hl ?_
 rw [hul]
 have e:(List.take 0 old.toArray.toList ++ (us ++ List.drop (0+r) old.toArray.toList))=us:=by
  rw [List.take_zero,List.nil_append,Nat.zero_add,List.drop_eq_nil_of_le (by simp; omega),List.append_nil]
 rw [e]
 refine h _ ⟨setRow_heap w g _ _ 136 _ hb.out⟩ ⟨rfl,rfl,rfl,by simp [World.setRow],fun b _ hn=>setRow_other w g b _ (by simpa using hn)⟩
def EchAt (w:World) (v:Value) (s:ElS):Prop:=∃ (gr:Nat) (us:List Value) (A:Option Addr) (c:Nat) (f:IV),v = .agg #[.slice (some ⟨gr,0,none⟩) s.rows.length s.rows.length,.slice A s.piv.length c,.bool f.b,.slice f.m.A f.m.k f.m.c] /\
 Blk w gr 136 us.toArray/\us.length=s.rows.length/\(∀ (i:Nat) (u:Value) (zs:List Int),us[i]?=some u -> s.rows[i]?=some zs -> ZAt w u zs)/\IntIs w f.v s.fac/\OwnI w (.slice A s.piv.length c) s.piv
theorem EchAt.set_ {w:World} {v x:Value} {s:ElS} {g j:Nat} {t:TypeId} {vs:Array Value} (h:EchAt w v s) (hb:Blk w g t vs) (h1:136 ≠ t) (h2:98 ≠ t) (h3:3 ≠ t) (hn:zaj vs j):EchAt (w.setCell ⟨g,j,none⟩ x) v s:=by
 obtain ⟨gr,us,A,c,f,hv,hR,hl,hz,hf,ho⟩:=h
 exact ⟨gr,us,A,c,f,hv,Blk.far (k:=hR) (h:=hR.apart_type hb h1),hl,fun i u zs a b=>(hz i u zs a b).set_ hb h2 hn,hf.setOwn hb hn,ho.set_ hb h3⟩
theorem EchAt.nxt {w w':World} {v:Value} {s:ElS} (h:EchAt w v s) (hn:Nxt w w'):EchAt w' v s:=by
 obtain ⟨gr,us,A,c,f,hv,hR,hl,hz,hf,ho⟩:=h
 exact ⟨gr,us,A,c,f,hv,Blk.nxt,hl,fun i u zs a b=>(hz i u zs a b).nxt hn,hf.below hn.out,ho.nxt hn⟩
structure GInv (w wr:World) (ge gr r:Nat) (s:ElS) (us:List Value) (A:Option Addr) (k c:Nat) (f:IV):Prop where
 ech:Blk wr ge 140 #[.slice (some ⟨gr,0,none⟩) r r,.slice A k c,.bool f.b,.slice f.m.A f.m.k f.m.c]
 kl:s.piv.length=k
 fac:IntIs wr f.v s.fac
 blk:Blk wr gr 136 us.toArray
 len:us.length=r
 nw:∀ (j:Nat) (u:Value),us[j]?=some u -> NW u
 rows:∀ (i:Nat) (u:Value) (zs:List Int),us[i]?=some u -> s.rows[i]?=some zs -> ZAt wr u zs
 own:OwnI wr (.slice A k c) s.piv
 ownb:∀ g,Value.ownBlock (.slice A k c)=some g -> w.heap.size <= g
 res:Blk wr w.heap.size 140 #[.slice none 0 0,.slice none 0 0,.bool false,.slice none 0 0]
 nxt:Nxt w wr
theorem Blk.ne_type {w:World} {g h:Nat} {t u:TypeId} {vs us:Array Value} (h1:Blk w g t vs) (h2:Blk w h u us) (ht:t ≠ u):g ≠ h:=(h1.apart_type h2 ht).out
theorem GInv.moved {w wr w':World} {ge gr r:Nat} {s:ElS} {us:List Value} {A:Option Addr} {k c:Nat} {f:IV} (h:GInv w wr ge gr r s us A k c f) (hx:Nxt wr w'):GInv w w' ge gr r s us A k c f:=
 ⟨Blk.nxt (h:=hx) (k:=h.ech),h.kl,h.fac.below hx.out,Blk.nxt (h:=hx) (k:=h.blk),h.len,h.nw,fun i u zs h1 h2=>(h.rows i u zs h1 h2).nxt hx,h.own.nxt hx,h.ownb,Blk.nxt (h:=hx) (k:=h.res),⟨h.nxt.out.trans (hx.out.mono h.nxt.out.size)⟩⟩
theorem zlw {us:List Value} (h:∀ (j:Nat) (u:Value),us[j]?=some u -> NW u) (i:Nat):zaj us.toArray i:=⟨fun x e=>by
 rw [List.getElem?_toArray] at e
 exact (h i _ e).out x rfl⟩
theorem GInv.put {w wr:World} {ge gr r i:Nat} {s:ElS} {us:List Value} {A:Option Addr} {k c:Nat} {f:IV} {u:Value} {zs:List Int} (h:GInv w wr ge gr r s us A k c f) (hgr:w.heap.size < gr) (hu:NW u) (hz:ZAt wr u zs) (hi:i < r) (hl:s.rows.length=r):
  GInv w (wr.setCell ⟨gr,i,none⟩ u) ge gr r ⟨s.rows.set i zs,s.piv,s.fac⟩ (us.set i u) A k c f:=by
 have hil:i < us.length:=by rw [h.len]; exact hi
 have hw:=zlw h.nw i
 refine ⟨Blk.far (k:=h.ech) (h:=h.ech.apart_type h.blk (by decide)),h.kl,h.fac.setOwn h.blk hw,zaR h.blk,by rw [List.length_set]; exact h.len,fun j v hv=>?_,fun j v ys hv hy=>?_,h.own.set_ h.blk (by decide),h.ownb,Blk.far (k:=h.res) (h:=h.res.apart_type h.blk (by decide)),⟨h.nxt.out.setCell (show w.heap.size <= gr by omega) _⟩⟩
 ·rw [List.getElem?_set] at hv
  by_cases e:i=j
  ·rw [if_pos e, if_pos (by omega)] at hv
   obtain rfl:=zl hv
   exact hu
  ·rw [if_neg e] at hv; exact h.nw j v hv
 ·refine ZAt.set_ ?_ h.blk (by decide) hw
  rw [List.getElem?_set] at hv hy
  by_cases e:i=j
  ·rw [if_pos e, if_pos (by omega)] at hv hy
   obtain rfl:=zl hv
   obtain rfl:=zl hy
   exact hz
  ·rw [if_neg e] at hv hy; exact h.rows j v ys hv hy
theorem GInv.swap {w wr:World} {ge gr r i j:Nat} {s:ElS} {us:List Value} {A:Option Addr} {k c:Nat} {f:IV} {ui uj:Value} (h:GInv w wr ge gr r s us A k c f) (hgr:w.heap.size < gr) (hl:s.rows.length=r) (hui:us[i]?=some ui) (huj:us[j]?=some uj):
  GInv w ((wr.setCell ⟨gr,i,none⟩ uj).setCell ⟨gr,j,none⟩ ui) ge gr r ⟨swapR s.rows i j,s.piv,s.fac⟩ ((us.set i uj).set j ui) A k c f:=by
 have hi:i < r:=by rw [<- h.len]; exact (zh.1 hui).1
 have hj:j < r:=by rw [<- h.len]; exact (zh.1 huj).1
 obtain ⟨zi,hzi⟩:∃ zs,s.rows[i]?=some zs:=⟨s.rows[i]'(by omega),zg _⟩
 obtain ⟨zj,hzj⟩:∃ zs,s.rows[j]?=some zs:=⟨s.rows[j]'(by omega),zg _⟩
 have h1:=h.put (i:=i) hgr (h.nw j uj huj) (h.rows j uj zj huj hzj) hi hl
 have hz:ZAt (wr.setCell ⟨gr,i,none⟩ uj) ui zi:=(h.rows i ui zi hui hzi).set_ h.blk (by decide) (zlw h.nw i)
 have h2:=h1.put (i:=j) hgr (h.nw i ui hui) hz hj (by simp only [List.length_set]; exact hl)
 have e:swapR s.rows i j=(s.rows.set i zj).set j zi:=by unfold swapR; rw [za3 hzi,za3 hzj]
 rw [e]; exact h2
theorem GInv.cleared {w wr w':World} {ge gr r:Nat} {s:ElS} {us us':List Value} {A:Option Addr} {k c:Nat} {f f':IV} {rows':List (List Int)} {P:Int} (h:GInv w wr ge gr r s us A k c f) (hge:w.heap.size < ge) (hgr:w.heap.size < gr) (hb:But wr [ge,gr] w')
  (hE:Blk w' ge 140 #[.slice (some ⟨gr,0,none⟩) r r,.slice A k c,.bool f'.b,.slice f'.m.A f'.m.k f'.m.c]) (hf:IntIs w' f'.v P) (hR:Blk w' gr 136 us'.toArray) (hul:us'.length=r) (hnw:∀ (j:Nat) (u:Value),us'[j]?=some u -> NW u)
  (hz:∀ (i:Nat) (u:Value) (zs:List Int),us'[i]?=some u -> rows'[i]?=some zs -> ZAt w' u zs):GInv w w' ge gr r ⟨rows',s.piv,P⟩ us' A k c f':=by
 refine ⟨hE,h.kl,hf,hR,hul,hnw,hz,h.own.but hb (fun g hg=>?_),h.ownb,zaY h.res hb (by simp; omega),zek h.nxt hb (by intro x hx; simp at hx; rcases hx with rfl | rfl <;> omega)⟩
 obtain ⟨vs,hv,_⟩:=h.own.words g hg
 have h1:=hv.ne_type h.ech (by decide)
 have h2:=hv.ne_type h.blk (by decide)
 simp [h1,h2]
theorem GInv.push {w wr w':World} {ge gr r:Nat} {s:ElS} {us:List Value} {A A':Option Addr} {k c c':Nat} {f:IV} {x:Int} (h:GInv w wr ge gr r s us A k c f) (hge:w.heap.size < ge) (ho:OwnI w' (.slice A' (k+1) c') (s.piv ++ [x])) (hg:wr.grownBy w' (Value.ownBlock (.slice A k c)))
  (hob:∀ g,Value.ownBlock (.slice A' (k+1) c')=some g -> Value.ownBlock (.slice A k c)=some g ∨ wr.heap.size <= g):GInv w (w'.setCell ⟨ge,1,none⟩ (.slice A' (k+1) c')) ge gr r ⟨s.rows,s.piv ++ [x],s.fac⟩ us A' (k+1) c' f:=by
 have e1:=za4 h.ech h.own hg (by decide)
 have r1:=za4 h.blk h.own hg (by decide)
 have s1:=za4 h.res h.own hg (by decide)
 have hx:Nxt w w':=⟨⟨hg.os.trans h.nxt.out.os,hg.tape.trans h.nxt.out.tape,hg.output.trans h.nxt.out.output,zo h.nxt.out.size hg.size,fun b hb=>(hg.block b (Nat.lt_of_lt_of_le hb h.nxt.out.size) (fun e=>by have:=h.ownb b e.symm; omega)).trans (h.nxt.out.block b hb)⟩⟩
 have hw:zaj #[.slice (some ⟨gr,0,none⟩) r r,.slice A k c,.bool f.b,.slice f.m.A f.m.k f.m.c] 1:=za
 refine ⟨Blk.set_ (k:=e1),by simp only [List.length_append,List.length_singleton]; rw [h.kl],(h.fac.grownI h.own hg).setOwn e1 hw,Blk.far (k:=r1) (h:=r1.apart_type e1 (by decide)),h.len,h.nw,fun i u zs h1 h2=>?_,ho.set_ e1 (by decide),fun g hg'=>?_,Blk.far (k:=s1) (h:=⟨by omega⟩),⟨hx.out.setCell (show w.heap.size <= ge by omega) _⟩⟩
 ·obtain ⟨g1, ls, hv, hb, hl, hq⟩ := h.rows i u zs h1 h2
  have hb':=za4 hb h.own hg (by decide)
  exact ⟨g1,ls,hv,Blk.far (k:=hb') (h:=hb'.apart_type e1 (by decide)),hl,fun j u' q h1 h2=>((hq j u' q h1 h2).grownI h.own hg).setOwn e1 hw⟩
 ·rcases hob g hg' with h1 | h1
  ·exact h.ownb g h1
  ·have:=h.nxt.out.size; omega
theorem zeD {w:World} {v:Value} {zss:List (List Int)} {r m b:Nat} (hv:ZMAt w v zss) (hrl:zss.length=r) (hr0:0 < r) (hr30:r < 2 ^ 30) (hml:∀ zs ∈ zss,zs.length=m) (hm30:m < 2 ^ 30) (hb:1 <= b) (hsz:∀ zs ∈ zss,∀ z ∈ zs,Wd z b) (hbig:elW b r <= 2 ^ 28):
  Calls Tryz.prog 108 #[v] w (fun e w'=>∃ ev,e = .returned ev/\EchAt w' ev (elGo m zss m)/\Nxt w w'):=by
 obtain ⟨gm,um,rfl,hbm,huml,hmz⟩:=hv
 rw [hrl] at huml ⊢
 have hmk:∀ w,(Instr.makeSlice 134 (.int .i64 (r:Int)) (.int .i64 (r:Int))).run Tryz.prog w = .ok (.slice (some ⟨w.heap.size,0,none⟩) r r) (w.alloc (.cells (zrow r) 136)):=zcE r (by omega)
 obtain ⟨u0,hu0⟩:∃ u,um[0]?=some u:=⟨um[0]'(by omega),zg _⟩
 obtain ⟨z0,hz0⟩:∃ zs,zss[0]?=some zs:=⟨zss[0]'(by omega),zg _⟩
 have hz0m:=hml z0 (zk hz0)
 obtain ⟨g0,l0,rfl,_,_,_⟩:=(hmz 0 u0 z0 hu0 hz0).at_
 rw [hz0m] at hu0
 have hu0A:um.toArray[0]?=some (.slice (some ⟨g0,0,none⟩) m m):=by rw [List.getElem?_toArray]; exact hu0
 have h1c:∀ v ∈ um,v.oneCell'=true:=by
  intro v hv
  obtain ⟨i,hi⟩:=List.mem_iff_getElem?.1 hv
  obtain ⟨zs,hzs⟩:∃ zs,zss[i]?=some zs:=⟨zss[i]'(by rw [hrl,<- huml]; exact (zh.1 hi).1),zg _⟩
  obtain ⟨_,_,rfl,_⟩:=hmz i v zs hi hzs
  rfl
 have hnwm:∀ (j:Nat) (u:Value),um[j]?=some u -> NW u:=by
  intro i v hi
  obtain ⟨zs,hzs⟩:∃ zs,zss[i]?=some zs:=⟨zss[i]'(by rw [hrl,<- huml]; exact (zh.1 hi).1),zg _⟩
  obtain ⟨_,_,rfl,_⟩:=hmz i v zs hi hzs
  infer_instance
 have hr0':(0:Int) < (r:Int):=by omega
 have HSI:=zc (SInv.go hrl hml hb hsz)
 have HRL:=zc hrl; have HR0:=zc hr0; have HR30:=zc hr30; have HM30:=zc hm30; have HBIG:=zc hbig; have HUML:=zc huml; have HMZ:=zc hmz; have H1C:=zc h1c; have HNWM:=zc hnwm
 clear hrl hr0 hr30 hml hm30 hb hsz hbig huml hmz h1c hnwm hu0 hz0 hz0m
 go_enter Tryz.func108,Tryz.ntmps108
 go_upto_region 1 with fail
 go_cut [3] (fun t3 wx=>∃ (ge gr:Nat) (s:IV),t3 = .pointer (some ⟨ge,0,none⟩)/\Blk wx ge 140 #[.slice (some ⟨gr,0,none⟩) r r,.slice none 0 0,.bool s.b,.slice s.m.A s.m.k s.m.c]/\Blk wx gr 136 (zrow r)/\IntIs wx s.v 1 /\
  NewIn ge (w.alloc (.cells #[.slice none 0 0,.slice none 0 0,.bool false,.slice none 0 0] 140))/\NewIn gr (w.alloc (.cells #[.slice none 0 0,.slice none 0 0,.bool false,.slice none 0 0] 140))/\Nxt (w.alloc (.cells #[.slice none 0 0,.slice none 0 0,.bool false,.slice none 0 0] 140)) wx)
 case first=>
  (refine Code.nameW ?_; intro W hW; go_region_held3 (fun w'=>ButO W [] w') (exact zab) ((first | (go_at_call 141; refine zf (zaD (by omega) (by omega)) ?_; rintro e w1 ⟨s1,rfl,_,_⟩))))
  all_goals go_wp2_with fail
  all_goals go_meet
  all_goals exact ⟨_,_,_,rfl,za,za,za,zbh,zbh,zaa⟩
 case rest=>
  obtain ⟨ge,gr,s0,rfl,hE0,hR0,hF0,hnge,hngr,hx0⟩:=hcut
  have hx00:Nxt w (w.alloc (.cells #[.slice none 0 0,.slice none 0 0,.bool false,.slice none 0 0] 140)):=zaa
  have hres0:Blk (w.alloc (.cells #[.slice none 0 0,.slice none 0 0,.bool false,.slice none 0 0] 140)) w.heap.size 140 #[.slice none 0 0,.slice none 0 0,.bool false,.slice none 0 0]:=Blk.new
  have hszw:(w.alloc (.cells #[.slice none 0 0,.slice none 0 0,.bool false,.slice none 0 0] 140)).heap.size=w.heap.size+1:=World.size_alloc _ _
  generalize w.alloc (.cells #[.slice none 0 0,.slice none 0 0,.bool false,.slice none 0 0] 140)=W0 at *
  have hxw:Nxt w wc:=zaa
  have hres:Blk wc w.heap.size 140 #[.slice none 0 0,.slice none 0 0,.bool false,.slice none 0 0]:=Blk.nxt (h:=hx0) (k:=hres0)
  have hgew:w.heap.size < ge:=by have:=hnge.out; omega
  have hgrw:w.heap.size < gr:=by have:=hngr.out; omega
  have hbmc:Blk wc gm 136 um.toArray:=Blk.nxt (h:=hxw) (k:=hbm)
  have hger:ge ≠ gr:=fun e=>by
   subst e
   have:=hE0.out.symm.trans hR0.out
   injection this with this
   injection this with _ this
   exact absurd this (by decide)
  have hgmr:gm ≠ gr:=by have:=hbm.lt; omega
  have HZR:=zc (fun i=>show zaj (zrow r) i from ⟨fun u e=>by
   rw [zrow,List.getElem?_toArray] at e
   exact (zgU i _ e).out u rfl⟩)
  have HGER:=zc hger; have HGMR:=zc hgmr; have HGEW:=zc hgew; have HGRW:=zc hgrw; have HR0:=zc hR0; have HE0:=zc hE0; have HRES:=zc hres; have HF0:=zc hF0; have HXW:=zc hxw
  clear hger hgmr hgew hgrw hx00 hres0 hszw hnge hngr hx0 hres hmk
  go_upto_region 3 with (refine zeJ rfl (.tmp 13) (.tmp 14) rfl gr gm r um (List.replicate r (.slice none 0 0)) rfl rfl HR0.out (by simp) hbmc HUML.out H1C.out ?_; intro w2 hb2 hbut2)
  have hbm2:Blk w2 gm 136 um.toArray:=zaY hbmc hbut2 (by simp; exact HGMR.out)
  have hG:GInv w w2 ge gr r ⟨zss,[],1⟩ um none 0 0 s0:=⟨zaY HE0.out hbut2 (by simp; exact HGER.out),rfl,HF0.out.butW hbut2 HR0.out HZR.out,hb2,HUML.out,HNWM.out,fun i u zs h1 h2=>((HMZ.out i u zs h1 h2).nxt HXW.out).butW hbut2 HR0.out HZR.out (by decide),.inl ⟨rfl,rfl⟩,fun g hg=>(by cases hg),zaY HRES.out hbut2 (by simp; have:=HGRW.out; omega),zek HXW.out hbut2 (by intro x hx; rw [List.mem_singleton.1 hx]; have:=HGRW.out; omega)⟩
  have HG:=zc hG
  have hc0:w2.cell? ⟨gm,0,none⟩=some (.slice (some ⟨g0,0,none⟩) m m):=(Blk.cell (k:=hbm2) (i:=0)).trans hu0A
  clear hbm2 hbm hu0A hG hbmc hE0 hR0 hF0 hbut2 hb2 hxw
  go_wp2_with fail
  clear hc0
  go_loopg [20] m (fun gk s20 wr=>∃ (col:Nat) (us:List Value) (A:Option Addr) (k c:Nat) (f:IV),col <= m/\gk=m - col/\s20 = .int .i64 (col:Int)/\GInv w wr ge gr r (elGo m zss col) us A k c f)
  case atStart=>exact ⟨0,um,none,0,0,s0,Nat.zero_le _,rfl,rfl,HG.out⟩
  case round=>
   obtain ⟨col,us,A,k,c,f,hcol,rfl,rfl,hI⟩:=hrel
   have HI:=zc hI
   have hE:=hI.ech; have hR:=hI.blk
   clear hI
   by_cases hcm:col < m
   ·have hlt : decide ((col : Int) < (m : Int)) = true := by simp; omega
    have hlt':(col:Int) < (m:Int):=by omega
    have hadd:IntKind.i64.wrap ((col:Int)+1)=((col+1:Nat):Int):=by have:=HM30.out; rw [zx]; omega
    have hS:=HSI.out col (by omega)
    obtain ⟨s,hs⟩:∃ s,elGo m zss col=s:=⟨_,rfl⟩
    have hsn:elGo m zss (col+1)=zdV m s col:=by rw [<- hs]; rfl
    rw [hs] at hS HI
    have hkr:k <= r:=by rw [<- HI.out.kl]; exact hS.pl
    have hkr':(k:Int) <= (r:Int):=by omega
    obtain ⟨g4,hg4⟩:∃ g,wr.heap.size=g:=⟨_,rfl⟩
    have hx1:Nxt wr (wr.alloc (.cells #[.int .i64 (col:Int)] 3)):=zaa
    have hb4:Blk (wr.alloc (.cells #[.int .i64 (col:Int)] 3)) g4 3 #[.int .i64 (col:Int)]:=by rw [<- hg4]; exact Blk.new
    have HS:=zc hS; have HSN:=zc hsn; have HKR:=zc hkr; have HCM:=zc hcm
    have hkl:=HI.out.kl
    by_cases hke:k=r
    ·have hf0:zcO s.rows s.piv.length col = -1:=by
      unfold zcO
      rw [List.drop_eq_nil_of_le (by rw [hS.rl,hkl,hke]; exact zv _)]
      rfl
     have hst:elGo m zss (col+1)=s:=by rw [hsn]; exact zdB hf0
     have HST:=zc hst; have HKE:=zc hke
     have HIX:=zc (fun (wq:World)=>zj2 (n:=194) (caps:=#[.pointer (some ⟨g4,0,none⟩)]) (w:=wq) (A:=some ⟨gr,0,none⟩) (c:=0) (k:=0) (vs:=[]) (bs:=[]) (fun args w=>by kernel_rfl) (fun i v h=>by simp at h) rfl rfl (by decide) (fun i v x h=>by simp at h))
     clear hS hsn hkr hcm hcol hs hkl hke hkr' hf0 hst
     have hkk:(k:Int)=(r:Int):=by have:=HKE.out; omega
     go_upto_region 7 with fail
     go_wp2_with fail
     refine zf (HIX.out _) ?_
     rintro e w5 ⟨rfl,hx5⟩
     have HGI:=zc (HI.out.moved (show Nxt wr w5 from zaa))
     have hft:firstT [] = -1:=rfl
     rw [hft]
     clear hx5 hx1 hb4 hE hR
     go_wp2_with fail
     go_roundg (m - (col+1))
     case measure=>have:=HCM.out; omega
     case rel=>exact ⟨col+1,us,A,k,c,f,HCM.out,rfl,rfl,by rw [HST.out]; exact HGI.out⟩
    ·have hlr : k < r := by omega
     have hlr':(k:Int) < (r:Int):=by omega
     have HLR:=zc hlr
     have hrows:∀ (i:Nat) (row:List Int),s.rows[i]?=some row -> row[col]?=some (row.getD col 0):=fun i row hrow=>by
      rw [List.getD_eq_getElem?_getD,zg (by rw [hS.ml row (zk hrow)]; exact hcm)]; rfl
     have HIX:=zc (fun (X:World) (hxX:Nxt wr X) (hb:Blk X g4 3 #[.int .i64 (col:Int)])=>zj2 (n:=194) (caps:=#[.pointer (some ⟨g4,0,none⟩)]) (w:=X) (A:=some ⟨gr,k,none⟩) (c:=r - k) (k:=r - k) (vs:=us.drop k)
      (bs := (s.rows.drop k).map fun (row : List Int) => decide (row.getD col 0 ≠ 0)) (fun args w => by kernel_rfl) (fun i v hv => by
       rw [List.getElem?_drop] at hv
       refine ⟨_,rfl,?_⟩
       have hbX:Blk X gr 136 us.toArray:=Blk.nxt (h:=hxX) (k:=hR)
       have e:(⟨gr,k,none⟩:Addr).add i=⟨gr,k+i,none⟩:=by unfold Addr.add; split <;> simp_all
       rw [e]
       exact (Blk.cell (k:=hbX) (i:=k+i)).trans (by rw [List.getElem?_toArray]; exact hv)) (by rw [List.length_drop,HI.out.len]) (by rw [List.length_map,List.length_drop,hS.rl]) (by have:=HR30.out; omega) (fun i v x hv hx wq hq=>by
       rw [List.getElem?_drop] at hv
       rw [List.getElem?_map,List.getElem?_drop] at hx
       cases hrow:s.rows[k+i]? with
       | none=>rw [hrow] at hx; cases hx
       | some row=>
        rw [hrow] at hx
        obtain rfl:decide (row.getD col 0 ≠ 0)=x:=by simpa using hx
        exact zlx (((HI.out.rows (k+i) v row hv hrow).nxt hxX).nxt hq) (Blk.nxt (h:=hq) (k:=hb)) (hrows (k+i) row hrow)))
     have hfz:firstT ((s.rows.drop k).map fun (row:List Int)=>decide (row.getD col 0 ≠ 0))=zcO s.rows s.piv.length col:=by unfold zcO; rw [hkl]
     have HFS:=zc (zgM s.rows s.piv.length col)
     rw [hfz] at HIX
     clear hS hsn hkr hcm hcol hs hke hlr hrows hfz
     go_upto_region 7 with fail
     go_wp2_with fail
     refine zf (HIX.out _ hx1 hb4) ?_
     rintro e w5 ⟨rfl,hx5⟩
     have hG5:=HI.out.moved (show Nxt wr w5 from zaa)
     have hb45:Blk w5 g4 3 #[.int .i64 (col:Int)]:=Blk.nxt (h:=hx5) (k:=hb4)
     rcases HFS.out with hfd | ⟨fd,hfd,hfl,hfn⟩
     ·have hst : elGo m zss (col + 1) = s := by rw [HSN.out]; exact zdB hfd
      have HST:=zc hst
      have HGI:=zc hG5
      rw [hfd]
      clear hfd hst hG5 hb45 hx5 hx1 hb4 hE hR
      go_wp2_with fail
      go_roundg (m - (col+1))
      case measure=>have:=HCM.out; omega
      case rel=>exact ⟨col+1,us,A,k,c,f,HCM.out,rfl,rfl,by rw [HST.out]; exact HGI.out⟩
     ·have hst : elGo m zss (col + 1) = _ := HSN.out.trans (zfT hfd)
      rw [hkl] at hst hfl hfn
      have HST:=zc hst
      have HGI:=zc hG5
      rw [hfd]
      have hfr:k+fd < r:=by rw [<- HS.out.rl]; exact hfl
      obtain ⟨j,hj⟩:∃ j,k+fd=j:=⟨_,rfl⟩
      rw [hj] at hst hfl hfn hfr HST
      have hfneg:decide ((fd:Int) < 0)=false:=decide_eq_false (by omega)
      have hfneg':¬ (fd:Int) < 0:=by omega
      have hwk:IntKind.i64.wrap ((k:Int)+(fd:Int))=(j:Int):=by have:=HR30.out; rw [zx]; omega
      have hwr:(j:Int) < (r:Int):=by omega
      obtain ⟨ua,hua⟩:∃ u,us[k]?=some u:=⟨us[k]'(by rw [HI.out.len]; omega),zg _⟩
      obtain ⟨ub,hub⟩:∃ u,us[j]?=some u:=⟨us[j]'(by rw [HI.out.len]; omega),zg _⟩
      have hE5:=hG5.ech; have hR5:=hG5.blk
      obtain ⟨na,va,rfl⟩:∃ (n:Nat) (A:Option Addr),ua = .slice A n n:=by
       obtain ⟨zs,hzs⟩:∃ zs,s.rows[k]?=some zs:=⟨s.rows[k]'(by rw [HS.out.rl]; omega),zg _⟩
       obtain ⟨g1,l1,h1,_⟩:=hG5.rows k ua zs hua hzs
       exact ⟨_,_,h1⟩
      obtain ⟨nb,vb,rfl⟩:∃ (n:Nat) (A:Option Addr),ub = .slice A n n:=by
       obtain ⟨zs,hzs⟩:∃ zs,s.rows[j]?=some zs:=⟨s.rows[j]'(by rw [HS.out.rl]; omega),zg _⟩
       obtain ⟨g1,l1,h1,_⟩:=hG5.rows j ub zs hub hzs
       exact ⟨_,_,h1⟩
      have ca:w5.cell? ⟨gr,k,none⟩=some (.slice va na na):=(Blk.cell (k:=hR5) (i:=k)).trans (by rw [List.getElem?_toArray]; exact hua)
      have cb:w5.cell? ⟨gr,j,none⟩=some (.slice vb nb nb):=(Blk.cell (k:=hR5) (i:=j)).trans (by rw [List.getElem?_toArray]; exact hub)
      have c3:w5.frozen? ⟨gr,k,none⟩=false:=Blk.frozen (k:=hR5)
      have c4:w5.frozen? ⟨gr,j,none⟩=false:=Blk.frozen (k:=hR5)
      have hs1:=zaR (i:=k) (x := .slice vb nb nb) hR5
      obtain ⟨d,hd⟩:∃ d,(us.set k (.slice vb nb nb))[j]?=some d:=⟨(us.set k (.slice vb nb nb))[j]'(by simp; rw [HI.out.len]; omega),zg _⟩
      have c5:(w5.setCell ⟨gr,k,none⟩ (.slice vb nb nb)).cell? ⟨gr,j,none⟩=some d:=(Blk.cell (k:=hs1) (i:=j)).trans (by rw [List.getElem?_toArray]; exact hd)
      have c6:(w5.setCell ⟨gr,k,none⟩ (.slice vb nb nb)).frozen? ⟨gr,j,none⟩=false:=Blk.frozen (k:=hs1)
      have hge1:w5.cell? ⟨ge,0,none⟩=some (.slice (some ⟨gr,0,none⟩) r r):=(Blk.cell (k:=hE5) (i:=0)).trans rfl
      have HFR:=zc hfr; have HUA:=zc hua; have HUB:=zc hub; have HFN:=zc hfn; have HE5:=zc hE5; have HB45:=zc hb45; have HR5:=zc hR5
      have HSW:=zc (fun (X:World) (hx:Nxt w5 X)=>(hG5.moved hx).swap HGRW.out HS.out.rl hua hub)
      clear hst hG5 hx5 hx1 hb4 hE hR hfd hfl hfn hfr hua hub hkl hj hR5 hs1 hd hE5 hb45
      go_upto_region 9 with fail
      go_region
      go_upto_region 10 with fail
      have hG6:=(HSW.out w5 zaa).moved (show Nxt ((w5.setCell ⟨gr,k,none⟩ (.slice vb nb nb)).setCell ⟨gr,j,none⟩ (.slice va na na)) (((w5.setCell ⟨gr,k,none⟩ (.slice vb nb nb)).setCell ⟨gr,j,none⟩ (.slice va na na)).drew) from zaa)
      have hb46:Blk (((w5.setCell ⟨gr,k,none⟩ (.slice vb nb nb)).setCell ⟨gr,j,none⟩ (.slice va na na)).drew) g4 3 #[.int .i64 (col:Int)]:=by
       have hb:=HB45.out
       have hap:Apart g4 gr:=hb.apart_type HR5.out (by decide)
       exact za
      generalize ((w5.setCell ⟨gr,k,none⟩ (.slice vb nb nb)).setCell ⟨gr,j,none⟩ (.slice va na na)).drew=X at *
      have hpl:s.piv.length <= r:=HS.out.pl
      have HCC:=zc (zhm (w:=X) (ge:=ge) (gr:=gr) (p:=k) (col:=col) (r:=r) (m:=m) (a:=elW b s.piv.length) (zss:=swapR s.rows k j) (P:=((swapR s.rows k j).getD k []).getD col 0) hG6.ech hG6.fac HS.out.f0 HS.out.fs hG6.blk hG6.len (by rw [zcT]; exact HS.out.rl) hG6.nw hG6.rows
       (fun zs hz=>HS.out.ml zs (zfb (by rw [HS.out.rl]; exact HLR.out) (by rw [HS.out.rl]; exact HFR.out) hz)) HCM.out HLR.out rfl (fun zs hz=>HS.out.sz zs (zfb (by rw [HS.out.rl]; exact HLR.out) (by rw [HS.out.rl]; exact HFR.out) hz)) (zo (zdU hpl) HBIG.out) (by have:=HR30.out; omega) (by have:=HM30.out; omega))
      have HG6:=zc hG6; have HB46:=zc hb46
      clear ca cb c3 c4 c5 c6 hge1 hwk hwr hfneg hfneg' hG6 hpl
      go_wp2_with fail
      refine zf HCC.out ?_
      rintro e w7 ⟨rfl,us',s7,hbut,hE7,hf7,hR7,hul7,hnw7,hz7⟩
      have hG8:=HG6.out.cleared HGEW.out HGRW.out hbut hE7 hf7 hR7 hul7 hnw7 hz7
      have hb47:Blk w7 g4 3 #[.int .i64 (col:Int)]:=zaY HB46.out hbut (by
       have h1:=HB46.out.ne_type HG6.out.ech (by decide)
       have h2:=HB46.out.ne_type HG6.out.blk (by decide)
       simp [h1,h2])
      have HG8:=zc (hG8.moved (show Nxt w7 (w7.alloc (.cells #[.int .i64 (col:Int)] 3)) from zaa))
      clear hG8 hbut hf7 hR7 hul7 hnw7 hz7 hb46
      have hc8:(w7.alloc (.cells #[.int .i64 (col:Int)] 3)).cell? ⟨w7.heap.size,0,none⟩=some (.int .i64 (col:Int)):=World.cell?_alloc_new _ _ _ _
      have hlen:s.piv.length < 2 ^ 30:=by have:=HS.out.pl; have:=HR30.out; omega
      have HC8:=zc hc8; have HLEN:=zc hlen
      have HKL:=zc (show (s.piv ++ [(col:Int)]).length=k+1 by rw [List.length_append,List.length_singleton,HI.out.kl])
      clear hc8 hlen
      go_upto_region 12 with (at_builtin; refine zam rfl (.tmp 60) (.tmp 62) rfl (.slice A k c) s.piv rfl HG8.out.own ⟨w7.heap.size,0,none⟩ 1 (col:Int) rfl HC8.out HLEN.out ?_; intro v9 w9 ho9 hg9 hob9; obtain ⟨A9,n9,c9,rfl,hn9⟩:=ho9.form2; rw [HKL.out] at hn9; subst hn9; have hE9:=za4 HG8.out.ech HG8.out.own hg9 (by decide))
      have HP:=zc (HG8.out.push HGEW.out ho9 hg9 hob9)
      clear hE9 ho9 hg9 hob9 hE7 hb47
      go_wp2_with fail
      go_roundg (m - (col+1))
      case measure=>have:=HCM.out; omega
      case rel=>exact ⟨col+1,us',A9,k+1,c9,s7,HCM.out,rfl,rfl,by rw [HST.out]; exact HP.out⟩
   ·have hlt : decide ((col : Int) < (m : Int)) = false := decide_eq_false (by omega)
    have hlt':¬ (col:Int) < (m:Int):=by omega
    obtain rfl:col=m:=by omega
    have hS:=HSI.out col (zv _)
    obtain ⟨s,hs⟩:∃ s,elGo col zss col=s:=⟨_,rfl⟩
    rw [hs] at hS HI
    have hres:=HI.out.res
    have hnx:=HI.out.nxt
    have hA:EchAt wr (.agg #[.slice (some ⟨gr,0,none⟩) r r,.slice A k c,.bool f.b,.slice f.m.A f.m.k f.m.c]) s:=by
     have h:=HI.out
     have h1:=h.own
     refine ⟨gr,us,A,c,f,by rw [hS.rl,h.kl],h.blk,by rw [h.len,hS.rl],h.rows,h.fac,?_⟩
     rw [h.kl]; exact h1
    have r1:Blk (wr.setCell ⟨w.heap.size,0,none⟩ (.slice (some ⟨gr,0,none⟩) r r)) w.heap.size 140 #[.slice (some ⟨gr,0,none⟩) r r,.slice none 0 0,.bool false,.slice none 0 0]:=za
    have a1:=hA.set_ (j:=0) (x := .slice (some ⟨gr,0,none⟩) r r) hres (by decide) (by decide) (by decide) za
    have r2:Blk ((wr.setCell ⟨w.heap.size,0,none⟩ (.slice (some ⟨gr,0,none⟩) r r)).setCell ⟨w.heap.size,1,none⟩ (.slice A k c)) w.heap.size 140 #[.slice (some ⟨gr,0,none⟩) r r,.slice A k c,.bool false,.slice none 0 0]:=za
    have a2:=a1.set_ (j:=1) (x := .slice A k c) r1 (by decide) (by decide) (by decide) za
    have r3:Blk (((wr.setCell ⟨w.heap.size,0,none⟩ (.slice (some ⟨gr,0,none⟩) r r)).setCell ⟨w.heap.size,1,none⟩ (.slice A k c)).setCell ⟨w.heap.size,2,none⟩ (.bool f.b)) w.heap.size 140 #[.slice (some ⟨gr,0,none⟩) r r,.slice A k c,.bool f.b,.slice none 0 0]:=za
    have a3:=a2.set_ (j:=2) (x := .bool f.b) r2 (by decide) (by decide) (by decide) za
    have a4:=a3.set_ (j:=3) (x := .slice f.m.A f.m.k f.m.c) r3 (by decide) (by decide) (by decide) za
    rw [<- hs] at a4
    have HA4:=zc a4
    clear hs hA a1 a2 a3 a4 r1 r2 r3 hS hcol
    go_wp2_with fail
    simp [bodyPost,results,Tryz.results108,go_sem]
    exact ⟨HA4.out,zaa⟩
end Go.Proofs.YtombhkpniddceaaGreatDoor
