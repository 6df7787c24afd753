import Derived.Test.YtombhkpniddceaaGreatDoorM23
set_option maxHeartbeats 12800000
set_option maxRecDepth 100000
set_option synthInstance.maxSize 20000
set_option linter.all false
namespace Go.Proofs.YtombhkpniddceaaGreatDoor
open Go.RowKit
def zb8 (qs:List Rat):List Int:=qs.map fun q=>q.num * flr (lcmQ qs qs.length) (q.den:Int)
theorem zkg {A:Option Addr} {c k:Nat} {ws:List (List UInt8)} {w:World}
  (hv:SAt w A ws) (hk:ws.length=k) (hn:k <= 65) (hl:∀ l ∈ ws,l.length < 2 ^ 40) (hok:∀ l ∈ ws,readE l=0):
  Calls Tryz.prog 106 #[.slice A k c] w (fun e w'=>∃ B m d,e = .returned (.slice B m d)/\ZAt w' (.slice B m d) (zb8 (ws.map readQ))/\Nxt w w'):=by
 have HC:=zc (zfk (c:=c) hv hk (by omega) hl hok)
 obtain ⟨qs,hqs⟩:∃ qs,ws.map readQ=qs:=⟨_,rfl⟩
 have hql:qs.length=k:=by rw [<- hqs]; simpa using hk
 have hsz:∀ q ∈ qs,Sz q 600:=by
  intro q hq
  rw [<- hqs] at hq
  obtain ⟨l,_,rfl⟩:=List.mem_map.1 hq
  infer_instance
 have HSZ:=zc hsz; have dw:=zfD (by omega) hsz k; have HN:=zc hn
 have HZ:=zc (show qs.map (fun q=>q.num * flr (lcmQ qs k) (q.den:Int))=zb8 qs by unfold zb8; rw [hql])
 have HQL:=zc hql
 have HD:=zc (fun (v:Value) (wq:World) (h:RAt wq v qs)=>zdY (b:=600) h hql (by omega) (by omega) hsz)
 rw [hqs] at HC ⊢
 obtain ⟨Z,hZ⟩:∃ Z,zb8 qs=Z:=⟨_,rfl⟩
 rw [hZ] at HZ ⊢
 generalize lcmQ qs k=M at *
 clear hv hk hl hok hql hsz hn hZ
 go_enter Tryz.func106,Tryz.ntmps106
 go_wp2_with fail
 refine zf HC.out ?_
 rintro e wR ⟨rfl,hr,hx⟩
 have HR:=zc hr
 clear hr
 go_wp2_with fail
 refine zf (HD.out _ _ HR.out) ?_
 rintro e w5 ⟨s,rfl,_,_⟩
 have HM:=zc (fun (wq:World) (hxq:Nxt wR wq) (_:Blk wq w5.heap.size 98 #[.bool s.b,s.m.v]) (_:IntIs wq s.v M)=>zhY (n:=192) (caps:=#[.pointer (some ⟨w5.heap.size,0,none⟩)]) (F:=fun q=>q.num * flr M (q.den:Int)) (k:=k) (w:=wq) (fun args w=>by kernel_rfl) (HR.out.nxt hxq) HQL.out (by have:=HN.out; omega) (fun q hq wr u hx2 hu=>by
  have dq:=HSZ.out q hq
  exact zhy (h1:=hu) (a:=k * (600+1)+1) (s:=s) (by have:=HN.out; omega)))
 rw [HZ.out] at HM
 go_wp2_with fail
 refine zf (HM.out _ zaa za za) ?_
 rintro e w9 ⟨rfl,hz,hx9⟩
 have HZ9:=zc hz
 clear hz
 go_wp2_with fail
 go_ret
 exact ⟨_,_,_,rfl,by have h:=HZ9.out; rw [World.size_alloc] at h; exact h,zaa⟩
def ZMAt (w:World) (v:Value) (zss:List (List Int)):Prop:=∃ (g:Nat) (us:List Value),v = .slice (some ⟨g,0,none⟩) zss.length zss.length/\Blk w g 136 us.toArray/\us.length=zss.length/\∀ (i:Nat) (u:Value) (zs:List Int),us[i]?=some u -> zss[i]?=some zs -> ZAt w u zs
theorem ZMAt.nxt {w w':World} {v:Value} {zss:List (List Int)} (h:ZMAt w v zss) (hn:Nxt w w'):ZMAt w' v zss:=by
 obtain ⟨g,us,hv,hb,hl,hq⟩:=h
 exact ⟨g,us,hv,Blk.nxt,hl,fun i u q h1 h2=>(hq i u q h1 h2).nxt hn⟩
theorem zgI (rows:List (List (List UInt8))):Kept 136 fun i v w=>∀ r,rows[i]?=some r -> ZAt w v (zb8 (r.map readQ)):=
 ⟨fun h hn r hr=>(h r hr).nxt hn,fun h hb hn r hr=>(h r hr).set_ hb (by decide) hn⟩
theorem zgH {w:World} {A:Option Addr} {n c:Nat} {rows:List (List (List UInt8))} (hm:MAt w A rows) (hk:rows.length=n) (hn:n < 2 ^ 40) (hr:∀ r ∈ rows,r.length <= 65) (hl:∀ r ∈ rows,∀ x ∈ r,x.length < 2 ^ 40) (hok:∀ r ∈ rows,∀ x ∈ r,readE x=0):
  Calls Tryz.prog 105 #[.slice A n c,.func (.func 106) #[] #[]] w (fun e w'=>e = .returned (.slice (some ⟨w.heap.size,0,none⟩) n n)/\ZMAt w' (.slice (some ⟨w.heap.size,0,none⟩) n n) (rows.map fun r=>zb8 (r.map readQ))/\Nxt w w'):=by
 obtain ⟨vs,hvl,hva,hvr⟩:=hm.vals
 refine zf (zlL (n:=106) (caps:=#[]) (k:=n) (c:=c) (fun args w=>by kernel_rfl) hva (by rw [hvl,hk]) hn (zgI rows) ?_) ?_
 ·intro i v hv wr hx
  obtain ⟨r,hr2⟩:∃ r,rows[i]?=some r:=⟨rows[i]'(by rw [<- hvl]; exact (zh.1 hv).1),zg _⟩
  obtain ⟨B,k,cc,rfl,hkk,hs⟩:=hvr i v r hv hr2
  have hmem:=zk hr2
  refine zf (zkg (c:=cc) (hs.nxt hx) hkk (by rw [<- hkk]; exact hr r hmem) (hl r hmem) (hok r hmem)) ?_
  rintro e w' ⟨B',m',d',rfl,h1,h2⟩
  exact ⟨_,_,_,rfl,fun r' hr'=>by rw [hr2] at hr'; obtain rfl:=zl hr'; exact h1,h2⟩
 ·rintro e w' ⟨us, rfl, hb, hul, hq, hx⟩
  refine ⟨rfl,⟨w.heap.size,us,by simp [hk],hb,by simp [hk,hul],fun i u qs h1 h2=>?_⟩,hx⟩
  obtain ⟨r,hr2,rfl⟩:∃ r,rows[i]?=some r/\zb8 (r.map readQ)=qs:=by simpa using h2
  exact hq i u h1 r hr2
theorem ZAt.at_ {w:World} {v:Value} {zs:List Int} (h:ZAt w v zs):∃ (g:Nat) (us:List IV),v = .slice (some ⟨g,0,none⟩) zs.length zs.length/\Blk w g 98 (zaI us)/\us.length=zs.length/\∀ (i:Nat) (z:Int),zs[i]?=some z -> ∃ u:IV,us[i]?=some u/\(zaI us)[i * 2]?=some (.bool u.b)/\(zaI us)[i * 2+1]?=some (.slice u.m.A u.m.k u.m.c)/\IntIs w u.v z:=by
 obtain ⟨g,us,hv,hb,hl,hq⟩:=h
 refine ⟨g,us,hv,hb,hl,fun i z hi=>?_⟩
 have hlt:i < us.length:=by rw [hl]; exact (zh.1 hi).1
 have hu:us[i]?=some us[i]:=zg hlt
 obtain ⟨h0,h1⟩:=zci hu
 exact ⟨us[i],hu,by rw [zaI,List.getElem?_toArray,h0],by rw [zaI,List.getElem?_toArray,h1],hq i _ z hu hi⟩
theorem sgn_ne (z:Int):(sgnI z != 0)=decide (z ≠ 0):=by
 unfold sgnI
 by_cases h:z < 0
 ·rw [if_pos h]; simp; omega
 ·rw [if_neg h]
  by_cases h0:z=0
  ·subst h0; simp
  ·rw [if_neg h0]; simp [h0]
theorem zlx {w:World} {v:Value} {zs:List Int} {col g:Nat} {z:Int} (hz:ZAt w v zs) (hb:Blk w g 3 #[.int .i64 (col:Int)]) (hc:zs[col]?=some z):
  Calls Tryz.prog 194 #[v,.pointer (some ⟨g,0,none⟩)] w (PRet w (.bool (decide (z ≠ 0)))):=by
 obtain ⟨gz,us,rfl,hbz,_,hat⟩:=hz.at_
 obtain ⟨u,_,a0,a1,hi⟩:=hat col z hc
 have hcl:col < zs.length:=(zh.1 hc).1
 have hcl':(col:Int) < (zs.length:Int):=by omega
 obtain ⟨n,hn⟩:∃ n,zs.length=n:=⟨_,rfl⟩
 rw [hn] at hcl' ⊢
 rw [<- sgn_ne]
 clear hat hz hc hcl hn
 go_enter Tryz.func194,Tryz.ntmps194
 go_wp2_with ((first | (go_at_call 164; refine zf (zbd) ?_; rintro e w1 ⟨rfl,_⟩)))
 go_ret
 exact ⟨rfl,zaa⟩
theorem cutAt_c {v1 v2:IV} {x y P M B:Int} {g6 g10 g7 a:Nat} {sp sm sb:IV} {w:World} [h1:IntIs w v1.v x] [h2:IntIs w v2.v y] [d1:Wd x a] [d2:Wd y a]
  [b1:Blk w g6 98 #[.bool sp.b,sp.m.v]] [b2:Blk w g10 98 #[.bool sm.b,sm.m.v]] [b3:Blk w g7 98 #[.bool sb.b,sb.m.v]]
  [i1:IntIs w sp.v P] [i2:IntIs w sm.v M] [i3:IntIs w sb.v B] [e1:Wd P a] [e2:Wd M a] [e3:Wd B a] [nz:NZ B] (ha:a <= 2 ^ 28):
  Calls Tryz.prog 238 #[v1.v,v2.v,.pointer (some ⟨g6,0,none⟩),.pointer (some ⟨g10,0,none⟩),.pointer (some ⟨g7,0,none⟩)] w (IRet w (flr (x * P - y * M) B)):=by
 have hM:20 * a+99 <= MaxW:=by unfold MaxW; omega
 clear ha
 go_enter Tryz.func238,Tryz.ntmps238
 go_wp2_with fail
 (refine Code.nameW ?_; intro W hW; go_region_held3 (fun w'=>ButO W [w.heap.size+1+1] w') (exact zab) ((first | (go_at_call 168; refine zf (zah (by omega)) ?_; rintro e w1 ⟨s1,rfl,_,_⟩) | (go_at_call 239; refine zf (zcy (by omega)) ?_; rintro e w1 ⟨s1,rfl,_,_⟩) | (go_at_call 172; refine zf (zal (by omega)) ?_; rintro e w1 ⟨s1,rfl,_,_⟩))))
 all_goals go_wp2_with fail
 all_goals (simp [bodyPost,results,Tryz.results238,go_sem])
 all_goals exact ⟨_,rfl,za,zaa⟩
section
open Go.Sort Go.Lib
@[reducible,go_sem] def ivv (s t:RV):Value := .agg #[.bool s.n.b,.slice s.n.m.A s.n.m.k s.n.m.c,.slice s.d.A s.d.k s.d.c,.bool t.n.b,.slice t.n.m.A t.n.m.k t.n.m.c,.slice t.d.A t.d.k t.d.c]
@[reducible,go_sem] def spv (a b:List UInt8):Value := .agg #[str a,str b]
def VRet (w:World) (x:Rat × Rat) (e:Ending) (w':World):Prop:=∃ s t:RV,e = .returned (ivv s t)/\RatIs w' s.v x.1/\RatIs w' t.v x.2/\Nxt w w'
def wE (q:Rat):Int:=if Fits q then 0 else 4
def wTxt (q:Rat):List UInt8:=if Fits q then zad q else []
def wE2 (x:Rat × Rat):Int:=or2 (wE x.1) (wE x.2)
def zbw (x:Rat × Rat):Value := .tuple #[spv (if wE2 x=0 then wTxt x.1 else []) (if wE2 x=0 then wTxt x.2 else []),.int .i64 (wE2 x)]
theorem zmG (q:Rat):zet q = .tuple #[str (wTxt q),.int .i64 (wE q)]:=by
 unfold zet wTxt wE
 split <;> rfl
theorem zbj {v1:Value} {q:Rat} {a:Nat} {w:World} [h1:RatIs w v1 q] [d1:Sz q a] [hg:Glo w] (ha:a <= 2 ^ 20):
  Calls Tryz.prog 142 #[v1] w (PRet w (.tuple #[str (wTxt q),.int .i64 (wE q)])):=by
 rw [<- zmG]
 exact zfl ha
theorem zch {w:World} {E:Int} {q:Rat} (h:E ≠ 0):RatIs w zr.v (zq E q):=by rw [zq,if_neg h]; exact zbf
theorem zeT {a b:Int} (h:or2 a b=0):a=0/\b=0:=by
 unfold or2 at h
 split at h
 ·exact ⟨by assumption,h⟩
 ·exact absurd h (by assumption)
def spE (l h:List UInt8):Int:=if zbx l h=0 then (if 0 < cmpQ (readQ l) (readQ h) then 11 else 0) else zbx l h
def spE2 (al ah bl bh:List UInt8):Int:=or2 (spE al ah) (spE bl bh)
section
variable {w:World} {x y:Rat × Rat} {a b:Nat} {s t s2 t2:RV}
theorem zi7 [h1:RatIs w s.v x.1] [h2:RatIs w t.v x.2] [d1:Sz x.1 a] [d2:Sz x.2 b] [hg:Glo w] (ha:a <= 2 ^ 20) (hb:b <= 2 ^ 20):
  Calls Tryz.prog 74 #[ivv s t] w (PRet w (zbw x)):=by
 obtain ⟨E,hE⟩:∃ E,wE2 x=E:=⟨_,rfl⟩
 have HE:=zc hE
 have HV:=zc (show zbw x = .tuple #[spv (if E=0 then wTxt x.1 else []) (if E=0 then wTxt x.2 else []),.int .i64 E] by unfold zbw; rw [hE])
 clear hE
 go_enter Tryz.func74,Tryz.ntmps74
 go_wp2_with fail
 refine zf (zbj ha) ?_
 rintro e w1 ⟨rfl,_⟩
 go_wp2_with fail
 refine zf (zbj hb) ?_
 rintro e w1 ⟨rfl,_⟩
 go_wp2_with fail
 refine zf zaH ?_
 rw [show or2 (wE x.1) (wE x.2)=E from HE.out]
 rintro e w3 ⟨rfl,_⟩
 go_wp2_with fail
 ·have h0 : E ≠ 0 := ne_b (by assumption)
  simp [bodyPost,results,Tryz.results74,go_sem]
  exact ⟨by rw [HV.out,if_neg h0,if_neg h0],zaa⟩
 ·have h0 : E = 0 := eq_b (by assumption)
  subst h0
  simp [bodyPost,results,Tryz.results74,go_sem]
  exact ⟨by rw [HV.out]; rfl,zaa⟩
theorem zeg {l h:List UInt8} (hl:l.length < 2 ^ 40) (hh:h.length < 2 ^ 40):
  Calls Tryz.prog 87 #[spv l h] w (fun e w'=>∃ s t:RV,e = .returned (.tuple #[ivv s t,.int .i64 (spE l h)])/\RatIs w' s.v (zq (spE l h) (readQ l))/\RatIs w' t.v (zq (spE l h) (readQ h))/\Nxt w w'):=by
 have HA:=zc hl; have HB:=zc hh
 obtain ⟨E,hE⟩:∃ E,spE l h=E:=⟨_,rfl⟩
 obtain ⟨F,hF⟩:∃ F,zbx l h=F:=⟨_,rfl⟩
 have hX:(if F=0 then (if 0 < cmpQ (readQ l) (readQ h) then 11 else 0) else F)=E:=by rw [<- hE,<- hF]; rfl
 have H1:=zc (show F ≠ 0 -> E=F from fun h=>by rw [<- hX,if_neg h])
 have H2:=zc (show F=0 -> 0 < cmpQ (zq F (readQ l)) (zq F (readQ h)) -> E=11 from fun h h2=>by rw [zq,zq,if_pos h,if_pos h] at h2; rw [<- hX,if_pos h,if_pos h2])
 have H3:=zc (show F=0 -> cmpQ (zq F (readQ l)) (zq F (readQ h)) <= 0 -> E=0 from fun h h2=>by rw [zq,zq,if_pos h,if_pos h] at h2; rw [<- hX,if_pos h,if_neg (by omega)])
 have HC:=fun w=>zdK (w:=w) hl hh
 rw [hF] at HC
 have HR:=zc HC
 rw [hE]
 clear hl hh hE hF HC hX
 go_enter Tryz.func87,Tryz.ntmps87
 go_wp2_with fail
 refine zf (HR.out _) ?_
 rintro e w1 ⟨q1,q2,rfl,_,_,_⟩
 go_wp2_with ((go_at_call 97; refine zf (zbz (by omega)) ?_; rintro e w1 ⟨rfl,_⟩))
 ·have h0 : F ≠ 0 := ne_b (by assumption)
  have hE:E=F:=H1.out h0
  subst hE
  simp [bodyPost,results,Tryz.results87,go_sem]
  exact ⟨zr,zr,(by repeat' (first | apply And.intro | rfl)),zch h0,zch h0,zaa⟩
 ·have h0 : F = 0 := eq_b (by assumption)
  have hE:E=11:=H2.out h0 (by assumption)
  subst h0 hE
  simp [bodyPost,results,Tryz.results87,go_sem]
  exact ⟨zr,zr,(by repeat' (first | apply And.intro | rfl)),zch (by decide),zch (by decide),zaa⟩
 ·have h0 : F = 0 := eq_b (by assumption)
  have hE:E=0:=H3.out h0 (by assumption)
  subst h0 hE
  simp [bodyPost,results,Tryz.results87,go_sem]
  exact ⟨q1,q2,(by repeat' (first | apply And.intro | rfl)),za,za,zaa⟩
theorem zbX {al ah bl bh:List UInt8} (h1:al.length < 2 ^ 40) (h2:ah.length < 2 ^ 40) (h3:bl.length < 2 ^ 40) (h4:bh.length < 2 ^ 40):
  Calls Tryz.prog 94 #[spv al ah,spv bl bh] w (fun e w'=>∃ s t s2 t2:RV,e = .returned (.tuple #[ivv s t,ivv s2 t2,.int .i64 (spE2 al ah bl bh)]) /\
   RatIs w' s.v (zq (spE2 al ah bl bh) (readQ al))/\RatIs w' t.v (zq (spE2 al ah bl bh) (readQ ah))/\RatIs w' s2.v (zq (spE2 al ah bl bh) (readQ bl))/\RatIs w' t2.v (zq (spE2 al ah bl bh) (readQ bh))/\Nxt w w'):=by
 have HA:=zc h1; have HB:=zc h2; have HC:=zc h3; have HD:=zc h4
 obtain ⟨E,hE⟩:∃ E,spE2 al ah bl bh=E:=⟨_,rfl⟩
 have HE:=zc hE
 rw [hE]
 clear h1 h2 h3 h4 hE
 go_enter Tryz.func94,Tryz.ntmps94
 go_wp2_with fail
 refine zf (zeg HA.out HB.out) ?_
 rintro e w1 ⟨q1,q2,rfl,_,_,_⟩
 go_wp2_with fail
 refine zf (zeg HC.out HD.out) ?_
 rintro e w1 ⟨q3,q4,rfl,_,_,_⟩
 go_wp2_with fail
 refine zf zaH ?_
 rw [show or2 (spE al ah) (spE bl bh)=E from HE.out]
 rintro e w3 ⟨rfl,_⟩
 go_wp2_with fail
 ·have h0 : E ≠ 0 := ne_b (by assumption)
  simp [bodyPost,results,Tryz.results94,go_sem]
  exact ⟨zr,zr,zr,zr,(by repeat' (first | apply And.intro | rfl)),zch h0,zch h0,zch h0,zch h0,zaa⟩
 ·have h0 : E = 0 := eq_b (by assumption)
  subst h0
  have hb:spE al ah=0/\spE bl bh=0:=zeT HE.out
  have r1:RatIs w3 q1.v (readQ al):=by have h:RatIs w3 q1.v (zq (spE al ah) (readQ al)):=za; rw [hb.1] at h; exact h
  have r2:RatIs w3 q2.v (readQ ah):=by have h:RatIs w3 q2.v (zq (spE al ah) (readQ ah)):=za; rw [hb.1] at h; exact h
  have r3:RatIs w3 q3.v (readQ bl):=by have h:RatIs w3 q3.v (zq (spE bl bh) (readQ bl)):=za; rw [hb.2] at h; exact h
  have r4:RatIs w3 q4.v (readQ bh):=by have h:RatIs w3 q4.v (zq (spE bl bh) (readQ bh)):=za; rw [hb.2] at h; exact h
  have b1:Blk w3 (w.heap.size+1+1) 106 #[.bool false,.slice none 0 0,.slice none 0 0,.bool false,.slice none 0 0,.slice none 0 0]:=za
  have b2:Blk w3 (w.heap.size+1+1+1) 106 #[.bool false,.slice none 0 0,.slice none 0 0,.bool false,.slice none 0 0,.slice none 0 0]:=za
  clear hb
  (refine Code.nameW ?_; intro W hW; go_region_held3 (fun w'=>ButO W [w.heap.size+1+1,w.heap.size+1+1+1] w') (exact zab) (fail))
  all_goals go_wp2_with fail
  all_goals simp [bodyPost,results,Tryz.results94,go_sem]
  all_goals exact ⟨q1,q2,q3,q4,(by repeat' (first | apply And.intro | rfl)),za,za,za,za,zaa⟩
end
end
def srow (l:List (List UInt8)):Array Value:=(l.map str).toArray
theorem zfa:(Tryz.prog.info? 22).map (fun i=>(i.zero,i.size,i.bytes))=some (some (str []),1,16):=by kernel_rfl
theorem zkj (n:Nat) (hn:n < 2 ^ 40) (w:World):
  (Instr.makeSlice 59 (.int .i64 (n:Int)) (.int .i64 (n:Int))).run Tryz.prog w = .ok (.slice (some ⟨w.heap.size,0,none⟩) n n) (w.alloc (.cells (srow (List.replicate n [])) 22)):=by
 obtain ⟨i0,hi0,hz0,hz1,hz2⟩:=info_parts zfa
 rw [run_make (P:=Tryz.prog) w 59 22 i0 (str []) Tryz.underlying59 hi0 hz0 .i64 .i64 n n (by omega) (by omega) (by rw [hz2]; omega) (by omega)]
 have e:madeCells (str []).cells ((n:Int).toNat * i0.size)=srow (List.replicate n []):=by
  rw [hz1]
  simp only [srow,madeCells,Value.cells,Int.toNat_natCast,Nat.mul_one]
  apply Array.ext_getElem?
  intro k
  by_cases hk:k < n
  ·simp [hk,Nat.mod_one]
  ·simp [hk]
 rw [e]
 simp
theorem zlg:(Tryz.prog.info? 59).map (fun i=>(i.zero,i.size,i.bytes))=some (some (.slice none 0 0),1,24):=by kernel_rfl
theorem zgA (n:Nat) (hn:n < 2 ^ 40) (w:World):
  (Instr.makeSlice 49 (.int .i64 (n:Int)) (.int .i64 (n:Int))).run Tryz.prog w = .ok (.slice (some ⟨w.heap.size,0,none⟩) n n) (w.alloc (.cells (zrow n) 59)):=by
 obtain ⟨i0,hi0,hz0,hz1,hz2⟩:=info_parts zlg
 rw [run_make (P:=Tryz.prog) w 49 59 i0 (.slice none 0 0) Tryz.underlying49 hi0 hz0 .i64 .i64 n n (by omega) (by omega) (by rw [hz2]; omega) (by omega)]
 have e:madeCells (Value.slice none 0 0).cells ((n:Int).toNat * i0.size)=zrow n:=by
  rw [hz1]
  simp only [zrow,madeCells,Value.cells,Int.toNat_natCast,Nat.mul_one]
  apply Array.ext_getElem?
  intro k
  by_cases hk:k < n
  ·simp [hk,Nat.mod_one]
  ·simp [hk]
 rw [e]
 simp
theorem zhE {w:World} {g i:Nat} {t:TypeId} {l:List (List UInt8)} {x:List UInt8} (h:Blk w g t (srow l)) (hx:l[i]?=some x):w.cell? ⟨g,i,none⟩=some (str x):=
 (Blk.cell (k:=h) (i:=i)).trans (by simp [srow,hx])
theorem zmQ {w:World} {g i:Nat} {t:TypeId} {l:List (List UInt8)} {x:List UInt8} (h:Blk w g t (srow l)):Blk (w.setCell ⟨g,i,none⟩ (str x)) g t (srow (l.set i x)):=
 Blk.set_ (k:=h) (h:=⟨by simp [srow,List.map_set]⟩)
def TAt (w:World) (v:Value) (l:List (List UInt8)):Prop:=∃ h,v = .slice (some ⟨h,0,none⟩) l.length l.length/\Blk w h 22 (srow l)
theorem TAt.nxt {w w':World} {v:Value} {l:List (List UInt8)} (h:TAt w v l) (hn:Nxt w w'):TAt w' v l:=by
 obtain ⟨g,hv,hb⟩:=h
 exact ⟨g,hv,Blk.nxt⟩
theorem TAt.set_ {w:World} {v:Value} {l:List (List UInt8)} {g j:Nat} {t:TypeId} {vs:Array Value} {x:Value} (h:TAt w v l) (hb:Blk w g t vs) (ht:22 ≠ t):TAt (w.setCell ⟨g,j,none⟩ x) v l:=by
 obtain ⟨g1,hv,h1⟩:=h
 exact ⟨g1,hv,Blk.far (k:=h1) (h:=h1.apart_type hb ht)⟩
theorem TAt.sat {w:World} {h k c:Nat} {A:Option Addr} {l:List (List UInt8)} (ht:TAt w (.slice A k c) l):l.length=k/\SAt w A l:=by
 obtain ⟨g,hv,hb⟩:=ht
 injection hv with h1 h2 h3
 subst h1
 exact ⟨h2.symm,fun i x hx=>⟨_,rfl,by
  have:=zhE hb hx
  by_cases hi:i=0
  ·subst hi; simpa [Addr.add] using this
  ·simpa [Addr.add,hi] using this⟩⟩
theorem zek {w W w':World} {rs:List Nat} (h:Nxt w W) (k:But W rs w') (hr:∀ r ∈ rs,w.heap.size <= r):Nxt w w':=
 ⟨⟨k.os.trans h.out.os,k.tape.trans h.out.tape,k.output.trans h.out.output,zo h.out.size k.size,fun b hb=>(k.block b (Nat.lt_of_lt_of_le hb h.out.size) (fun hm=>Nat.lt_irrefl _ (Nat.lt_of_lt_of_le hb (hr b hm)))).trans (h.out.block b hb)⟩⟩
theorem zct {W w':World} {rs:List Nat} {g i:Nat} {x:Value} (k:But W rs w') (h:g ∈ rs):But W rs (w'.setCell ⟨g,i,none⟩ x):=But.set_ (h:=⟨h⟩)
theorem zc5 {W w' w2:World} {rs:List Nat} (k:But W rs w') (h:Nxt w' w2):But W rs w2:=But.nxt
theorem zaY {W w':World} {rs:List Nat} {g:Nat} {t:TypeId} {vs:Array Value} (b:Blk W g t vs) (k:But W rs w') (h:g ∉ rs):Blk w' g t vs:=⟨(k.block g b.lt h).trans b.out⟩
def trow (F:Nat -> Nat -> Rat) (c i:Nat):List (List UInt8):=(List.range c).map fun j=>zad (F i j)
theorem zmJ {F:Nat -> Nat -> Rat} {c i:Nat} {l:List (List UInt8)} (hl:l.length=c) (h:∀ k,k < c -> l[k]?=some (zad (F i k))):l=trow F c i:=by
 apply List.ext_getElem?
 intro k
 rcases Nat.lt_or_ge k c with hk | hk
 ·rw [h k hk,trow,List.getElem?_map,List.getElem?_range hk]; rfl
 ·rw [List.getElem?_eq_none (by omega),List.getElem?_eq_none (by simp [trow]; omega)]
structure WInv (w wr:World) (F:Nat -> Nat -> Rat) (r c i:Nat) (us:List Value):Prop where
 len:us.length=r
 blk:Blk wr w.heap.size 59 us.toArray
 done:∀ (j:Nat) (u:Value),j < i -> us[j]?=some u -> TAt wr u (trow F c j)
 fits:∀ (j k:Nat),j < i -> k < c -> Fits (F j k)
 nxt:Nxt w wr
structure CInv (W wi:World) (h:Nat) (F:Nat -> Nat -> Rat) (c i j:Nat) (l:List (List UInt8)):Prop where
 len:l.length=c
 blk:Blk wi h 22 (srow l)
 done:∀ k,k < j -> l[k]?=some (zad (F i k))
 fits:∀ k,k < j -> Fits (F i k)
 but:But W [h] wi
theorem CInv.step {W wi w5:World} {h:Nat} {F:Nat -> Nat -> Rat} {c i j:Nat} {l:List (List UInt8)} (H:CInv W wi h F c i j l) (hj:j < c) (hx:Nxt wi w5) (hf:Fits (F i j)):CInv W (w5.setCell ⟨h,j,none⟩ (str (zad (F i j)))) h F c i (j+1) (l.set j (zad (F i j))):=
 ⟨by rw [List.length_set]; exact H.len, zmQ (Blk.nxt (h := hx) (k := H.blk)), fun k hk => by
  rw [List.getElem?_set]
  by_cases e:j=k
  ·subst e; rw [if_pos rfl,if_pos (by rw [H.len]; exact hj)]
  ·rw [if_neg e]; exact H.done k (by omega),fun k hk=>by
  by_cases e:k=j
  ·subst e; exact hf
  ·exact H.fits k (by omega),zct (zc5 H.but hx) (by simp)⟩
def WRet (w:World) (F:Nat -> Nat -> Rat) (r c:Nat) (e:Ending) (w':World):Prop:=
 ((∀ i j,i < r -> j < c -> Fits (F i j))/\e = .returned (.tuple #[.slice (some ⟨w.heap.size,0,none⟩) r r,.int .i64 0])/\(∃ us:List Value,WInv w w' F r c r us)) ∨
 ((∃ i j,i < r/\j < c/\¬ Fits (F i j))/\e = .returned (.tuple #[.slice none 0 0,.int .i64 4])/\Nxt w w')
theorem zdq {n:FuncId} {caps:Array Value} {r c a:Nat} {F:Nat -> Nat -> Rat} {w:World} [hg:Glo w]
  (hrun:∀ (args:Array Value) (w:World),Sem.run Tryz.prog (callFunc n args) w = .ok (.enter n args) w)
  (hr:r <= 256) (hc:c <= 256) (ha:a <= 2 ^ 20) (hs:∀ i j,i < r -> j < c -> Sz (F i j) a)
  (hcall:∀ i j,i < r -> j < c -> ∀ wq,Nxt w wq -> Calls Tryz.prog n (#[.int .i64 (i:Int),.int .i64 (j:Int)] ++ caps) wq (RRet wq (F i j))):
  Calls Tryz.prog 112 #[.int .i64 (r:Int),.int .i64 (c:Int),.func (.func n) #[] caps] w (WRet w F r c):=by
 have hmk:∀ w,(Instr.makeSlice 49 (.int .i64 (r:Int)) (.int .i64 (r:Int))).run Tryz.prog w = .ok (.slice (some ⟨w.heap.size,0,none⟩) r r) (w.alloc (.cells (zrow r) 59)):=zgA r (by omega)
 have hmk2:∀ w,(Instr.makeSlice 59 (.int .i64 (c:Int)) (.int .i64 (c:Int))).run Tryz.prog w = .ok (.slice (some ⟨w.heap.size,0,none⟩) c c) (w.alloc (.cells (srow (List.replicate c [])) 22)):=zkj c (by omega)
 have HR:=zc hr; have HC:=zc hc; have HA:=zc ha; have HS:=zc hs; have HF:=zc hcall
 clear hr hc ha hs hcall
 go_enter Tryz.func112,Tryz.ntmps112
 go_wp2_with fail
 have h0:Blk (w.alloc (.cells (zrow r) 59)) w.heap.size 59 (zrow r):=Blk.new
 have hb0:Nxt w (w.alloc (.cells (zrow r) 59)):=zaa
 generalize w.alloc (.cells (zrow r) 59)=W0 at *
 have H0:=zc h0; have HB0:=zc hb0
 clear h0 hb0 hmk
 go_loopg [17] r (fun gk s17 wr=>∃ (i:Nat) (us:List Value),i <= r/\gk=r - i/\s17 = .int .i64 (i:Int)/\WInv w wr F r c i us)
 case atStart=>exact ⟨0,List.replicate r (Value.slice none 0 0),Nat.zero_le _,rfl,rfl,⟨by simp,H0.out,fun _ _ h=>absurd h (by omega),fun _ _ h=>absurd h (by omega),HB0.out⟩⟩
 case round=>
  obtain ⟨i,us,hi,rfl,rfl,hI⟩:=hrel
  have HI:=zc hI
  clear hI
  by_cases hin:i < r
  ·have hlt : decide ((i : Int) < (r : Int)) = true := by simp; omega
   have hlt':(i:Int) < (r:Int):=by omega
   have hadd:IntKind.i64.wrap ((i:Int)+1)=((i+1:Nat):Int):=by have:=HR.out; rw [zx]; omega
   have hil:i < us.length:=by rw [HI.out.len]; exact hin
   obtain ⟨h,hh⟩:∃ h,wr.heap.size=h:=⟨_,rfl⟩
   have hm2:=hmk2 wr
   rw [hh] at hm2
   obtain ⟨W1,hW1⟩:∃ W1,wr.alloc (.cells (srow (List.replicate c [])) 22)=W1:=⟨_,rfl⟩
   have hx1:Nxt wr W1:=by rw [<- hW1]; exact zaa
   have hb1:Blk W1 w.heap.size 59 us.toArray:=Blk.nxt (h:=hx1) (k:=HI.out.blk)
   have hn1:Blk W1 h 22 (srow (List.replicate c [])):=by rw [<- hW1,<- hh]; exact Blk.new
   rw [hW1] at hm2
   have hfx:W1.frozen? ⟨w.heap.size,i,none⟩=false:=Blk.frozen (k:=hb1)
   have hcx:W1.cell? ⟨w.heap.size,i,none⟩=some (us[i]'hil):=(Blk.cell (k:=hb1) (i:=i)).trans (by simp)
   obtain ⟨W2,hW2⟩:∃ W2,W1.setCell ⟨w.heap.size,i,none⟩ (.slice (some ⟨h,0,none⟩) c c)=W2:=⟨_,rfl⟩
   have hb2:Blk W2 w.heap.size 59 (us.set i (.slice (some ⟨h,0,none⟩) c c)).toArray:=by rw [<- hW2]; exact zaR hb1
   have hn2:Blk W2 h 22 (srow (List.replicate c [])):=by rw [<- hW2]; exact Blk.far (k:=hn1) (h:=hn1.apart_type hb1 (by decide))
   have hNw:Nxt w W2:=by
    have:=HI.out.nxt
    rw [<- hW2]; exact zaa
   have hd2:∀ (j:Nat) (u:Value),j < i -> us[j]?=some u -> ∃ g,u = .slice (some ⟨g,0,none⟩) (trow F c j).length (trow F c j).length/\Blk W2 g 22 (srow (trow F c j))/\g ≠ h:=by
    intro j u hj hu
    obtain ⟨g,hv,hb⟩:=HI.out.done j u hj hu
    refine ⟨g,hv,?_,?_⟩
    ·have hb' : Blk W1 g 22 (srow (trow F c j)) := Blk.nxt (h := hx1) (k := hb)
     rw [<- hW2]; exact Blk.far (k:=hb') (h:=hb'.apart_type hb1 (by decide))
    ·have:=hb.lt; omega
   have hgh:w.heap.size ≠ h:=by have:=HI.out.blk.lt; omega
   have hwh:w.heap.size <= h:=by have:=HI.out.nxt.out.size; omega
   have hc2:W2.cell? ⟨w.heap.size,i,none⟩=some (.slice (some ⟨h,0,none⟩) c c):=(Blk.cell (k:=hb2) (i:=i)).trans (by simp [hil])
   have HB2:=zc hb2; have HN2:=zc hn2; have HNW:=zc hNw; have HD2:=zc hd2; have HGH:=zc hgh; have HWH:=zc hwh; have HHH:=zc hh
   clear hb2 hn2 hNw hd2 hgh hwh hb1 hn1 hx1 hmk2
   go_wp2_with fail
   clear hm2 hfx hcx hW1 hW2
   go_loopg [30] c (fun gk s30 wi=>∃ (j:Nat) (l:List (List UInt8)),j <= c/\gk=c - j/\s30 = .int .i64 (j:Int)/\CInv W2 wi h F c i j l)
   case atStart=>exact ⟨0,List.replicate c [],Nat.zero_le _,rfl,rfl,⟨by simp,HN2.out,fun k hk=>absurd hk (by omega),fun k hk=>absurd hk (by omega),But.refl⟩⟩
   case round=>
    obtain ⟨j,l,hj,rfl,rfl,hC⟩:=hrel
    have HCI:=zc hC
    clear hC
    by_cases hjn:j < c
    ·have hlt2 : decide ((j : Int) < (c : Int)) = true := by simp; omega
     have hlt2':(j:Int) < (c:Int):=by omega
     have hadd2:IntKind.i64.wrap ((j:Int)+1)=((j+1:Nat):Int):=by have:=HC.out; rw [zx]; omega
     have hq:Nxt w wr:=zek HNW.out HCI.out.but (by intro r hr; rw [List.mem_singleton.1 hr]; exact HWH.out)
     have hgq:Glo wr:=za
     have hsz:Sz (F i j) a:=HS.out i j hin hjn
     have HCA:=zc (HF.out i j hin hjn wr hq)
     have hjl:j < l.length:=by rw [HCI.out.len]; exact hjn
     obtain ⟨x,hx⟩:∃ x,l[j]?=some x:=⟨l[j],zg hjl⟩
     clear hjl
     go_wp2_with fail
     refine zf HCA.out ?_
     rintro e w5 ⟨s5,rfl,hr5,hx5⟩
     have hg5:Glo w5:=za
     go_wp2_with fail
     refine zf (zfl (q:=F i j) (a:=a) HA.out) ?_
     rintro e w6 ⟨rfl,hx6⟩
     have hx56:Nxt wr w6:=zaa
     by_cases hfit:Fits (F i j)
     ·have hwv : zet (F i j) = .tuple #[str (zad (F i j)), .int .i64 0] := if_pos hfit
      have h6:=zaY HB2.out (zc5 HCI.out.but hx56) (by simp; exact HGH.out)
      have hc6:w6.cell? ⟨w.heap.size,i,none⟩=some (.slice (some ⟨h,0,none⟩) c c):=(Blk.cell (k:=h6) (i:=i)).trans (by simp [hil])
      have hl6:Blk w6 h 22 (srow l):=Blk.nxt (h:=hx56) (k:=HCI.out.blk)
      have hd6:w6.cell? ⟨h,j,none⟩=some (str x):=zhE hl6 hx
      have hf6:w6.frozen? ⟨h,j,none⟩=false:=Blk.frozen (k:=hl6)
      have HST:=zc (HCI.out.step hjn hx56 hfit)
      rw [hwv]
      clear h6 hl6 hx5 hx6 hr5 hsz hq hgq hg5 hx56 hfit hx hwv
      go_wp2_with fail
      go_roundg (c - (j+1))
      case measure=>omega
      case rel=>exact ⟨j+1,_,hjn,rfl,rfl,HST.out⟩
     ·have hwv : zet (F i j) = .tuple #[str [], .int .i64 4] := if_neg hfit
      have HNX:=zc (show Nxt w w6 from zaa)
      rw [hwv]
      clear hx5 hx6 hr5 hsz hq hgq hg5 hx56 hx hwv
      go_wp2_with fail
      go_ret2
      exact .inr ⟨⟨i,j,hin,hjn,hfit⟩,rfl,HNX.out⟩
    ·have hlt2 : decide ((j : Int) < (c : Int)) = false := by simp; omega
     have hlt2':¬ (j:Int) < (c:Int):=by omega
     obtain rfl:j=c:=by omega
     have hI2:WInv w wr F r j (i+1) (us.set i (.slice (some ⟨h,0,none⟩) j j)):=by
      have hC:=HCI.out
      have hI:=HI.out
      have hll:=zmJ hC.len hC.done
      refine ⟨by rw [List.length_set]; exact hI.len,zaY HB2.out hC.but (by simp; exact HGH.out),?_,?_,zek HNW.out hC.but (by intro r hr; rw [List.mem_singleton.1 hr]; exact HWH.out)⟩
      ·intro k u hk hu
       rw [List.getElem?_set] at hu
       by_cases hij:i=k
       ·subst hij
        rw [if_pos rfl,if_pos hil] at hu
        obtain rfl:=zl hu
        exact ⟨h,by rw [<- hll,hC.len],by rw [<- hll]; exact hC.blk⟩
       ·rw [if_neg hij] at hu
        obtain ⟨g,hv,hb,hne⟩:=HD2.out k u (by omega) hu
        exact ⟨g,hv,zaY hb hC.but (by simp; exact hne)⟩
      ·intro k m hk hm
       by_cases hij:k=i
       ·subst hij; exact hC.fits m hm
       ·exact hI.fits k m (by omega) hm
     have HI2:=zc hI2
     clear hI2
     go_wp2_with fail
     go_roundg (r - (i+1))
     case measure=>omega
     case rel=>exact ⟨i+1,_,hin,rfl,rfl,HI2.out⟩
  ·have hlt : decide ((i : Int) < (r : Int)) = false := by simp; omega
   have hlt':¬ (i:Int) < (r:Int):=by omega
   obtain rfl:i=r:=by omega
   go_wp2_with fail
   go_ret2
   exact .inl ⟨fun i j hi hj=>HI.out.fits i j hi hj,rfl,us,HI.out⟩
end Go.Proofs.YtombhkpniddceaaGreatDoor
