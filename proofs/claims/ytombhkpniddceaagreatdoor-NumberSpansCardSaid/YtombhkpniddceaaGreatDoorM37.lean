import Derived.Test.YtombhkpniddceaaGreatDoorM36
set_option maxHeartbeats 25600000
set_option maxRecDepth 100000
set_option synthInstance.maxSize 20000
set_option linter.all false
namespace Go.Proofs.YtombhkpniddceaaGreatDoor
open Go.RowKit
section
open Go.Sort Go.Lib
section
variable {w:World} {v1 v2:Value} {x y:Int} {a b:Nat}
theorem zfH {n:Int} [h1:IntIs w v1 x] [d1:Wd x a] (hl:a <= MaxW) (hn:n <= 2 ^ 40):Calls Tryz.prog 224 #[v1,.int .i64 n] w (IRet w (x * 2 ^ n.toNat)):=by
 obtain ⟨s,rfl,HB,_⟩:=h1.form
 have HX:Hid (sgn s.b (x.natAbs * 2 ^ n.toNat)=x * 2 ^ n.toNat):=by show _=_; rw [HB.out]; exact zjK x n.toNat
 have hm:max n 0=((n.toNat:Nat):Int):=by omega
 obtain ⟨m,hmm⟩:∃ m,n.toNat=m:=⟨_,rfl⟩
 rw [hmm] at HX hm ⊢
 have HN:=zc (show m <= MaxW by unfold MaxW; omega)
 clear hn hmm
 go_enter Tryz.func224,Tryz.ntmps224
 go_wp2_with fail
 (refine Code.nameW ?_; intro W hW; go_region_held3 (fun w'=>ButO W [w.heap.size+1] w') (exact zab) ((first | (go_at_call 256; refine zf (zgD hl HN.out) ?_; rintro e w1 ⟨s1,rfl,_,_⟩) | (go_at_call 160; refine zf (zbq) ?_; rintro e w1 ⟨b1,rfl,_,_⟩))))
 all_goals go_wp2_with fail
 all_goals simp [bodyPost,results,Tryz.results224,go_sem]
 all_goals exact ⟨⟨b1,s1⟩,rfl,by rw [<- HX.out]; infer_instance,zaa⟩
theorem zh2:Calls Tryz.prog 156 #[] w (RRet w (Rat.divInt 1 (1 * 2 ^ 149))):=by
 have d1:Wd (1 * 2 ^ 149:Int) 4:=⟨zaf (by unfold B64; decide +kernel)⟩
 go_enter Tryz.func156,Tryz.ntmps156
 go_wp2_with fail
 refine zf (zaD (n:=1) (by omega) (by omega)) ?_
 rintro e w1 ⟨s1,rfl,_,_⟩
 go_wp2_with fail
 refine zf (zaD (n:=1) (by omega) (by omega)) ?_
 rintro e w1 ⟨s2,rfl,_,_⟩
 go_wp2_with fail
 refine zf (zde (x:=1) (n:=149) (by decide) (by decide)) ?_
 rintro e w1 ⟨s3,rfl,_,_⟩
 go_wp2_with fail
 refine zf (zcg (by decide)) ?_
 rintro e w1 ⟨q1,rfl,_,_⟩
 go_wp2_with fail
 simp [bodyPost,results,Tryz.results156,go_sem]
 exact ⟨q1,rfl,za,zaa⟩
theorem zgX {x:Int} {a n:Nat} (h:Wd x a):Wd (x * 2 ^ n) (a+(n+1)):=by
 have h2:Wd ((2:Int) ^ n) (n+1):=zcD (by decide) (by decide) n
 infer_instance
def spU (y e:Int):Int:=y * 2 ^ e.toNat
def spN (x e:Int):Int:=x * 2 ^ (-e).toNat
def spS (x y e:Int):Int:=flr (spN x e) (spU y e)
def spR (x y e:Int):Int:=spN x e - spU y e * spS x y e
theorem zk6 {e:Int} {c:Nat} [h1:IntIs w v1 x] [h2:IntIs w v2 y] [d1:Wd x a] [d2:Wd y b] [d3:Wd (spU y e) c] [d4:Wd (spN x e) c] (ha:a <= 2 ^ 30) (hb:b <= 2 ^ 30) (hc:c <= 2 ^ 30) (he0 : -(2 ^ 30) <= e) (he1:e <= 2 ^ 30) (hy:y ≠ 0):
  Calls Tryz.prog 249 #[v1,v2,.int .i64 e] w (fun e1 w'=>∃ s t u:IV,e1 = .returned (.tuple #[s.v,t.v,u.v])/\IntIs w' s.v (spS x y e)/\IntIs w' t.v (spR x y e)/\IntIs w' u.v (spU y e)/\Nxt w w'):=by
 obtain ⟨s1,rfl,_,_⟩:=h1.form
 obtain ⟨s2,rfl,_,_⟩:=h2.form
 have HA:=zc ha; have HB:=zc hb; have HCC:=zc hc; have HE0:=zc he0; have HE1:=zc he1
 obtain ⟨n,hn⟩:∃ n,-e=n:=⟨_,rfl⟩
 have hw:IntKind.i64.wrap (-e)=n:=by rw [zx]; omega
 have HN:=zc hn
 obtain ⟨U,hU⟩:∃ U,spU y e=U:=⟨_,rfl⟩
 obtain ⟨X,hX⟩:∃ X,spN x e=X:=⟨_,rfl⟩
 have HU:=zc (show y * 2 ^ e.toNat=U from hU)
 have HX:=zc (show x * 2 ^ n.toNat=X by rw [<- hn]; exact hX)
 have HS:=zc (show spS x y e=flr X U by rw [<- hX,<- hU]; rfl)
 have HR:=zc (show spR x y e=X - U * flr X U by rw [<- hX,<- hU]; rfl)
 have hUz:U ≠ 0:=by
  rw [<- hU]; unfold spU
  exact Int.mul_ne_zero hy (by have:(0:Int) < 2 ^ e.toNat:=Int.pow_pos (by decide); omega)
 have HUZ:=zc hUz
 rw [hU] at d3 ⊢
 rw [hX] at d4
 have hM:c+c+c+c+99 <= MaxW:=by unfold MaxW; omega
 clear ha hb hc he0 he1 hy hn hU hX hUz
 go_enter Tryz.func249,Tryz.ntmps249
 go_wp2_with fail
 refine zf (zfH (x:=y) (n:=e) (by have:=HB.out; unfold MaxW; omega) (by have:=HE1.out; omega)) ?_
 rw [HU.out]
 rintro e3 w1 ⟨s3,rfl,_,_⟩
 go_wp2_with fail
 (refine Code.nameW ?_; intro W hW; go_region_held3 (fun w'=>ButO W [w.heap.size+1+1,w.heap.size+1+1+1] w') (exact zab) (((first | (go_at_call 224; refine zf (zfH (x:=x) (n:=n) (by have:=HA.out; unfold MaxW; omega) (by have:=HN.out; have:=HE0.out; omega)) ?_; rw [HX.out]; rintro e3 w1 ⟨s4,rfl,_,_⟩) | (go_at_call 233; refine zf (zib (x:=X) (y:=U) (by omega) HUZ.out) ?_; rintro e3 w1 ⟨s5,s6,rfl,_,_,_⟩)))))
 all_goals go_wp2_with fail
 all_goals go_region
 all_goals go_wp2_with fail
 all_goals simp [bodyPost,results,Tryz.results249,go_sem]
 all_goals exact ⟨s5,s6,s3,(by repeat' (first | apply And.intro | rfl)),by rw [HS.out]; infer_instance,by rw [HR.out]; infer_instance,za,zaa⟩
end
end
def zcm (rows:List (List (List UInt8))):List (List Int):=(zbg rows).map List.reverse
def kerS (rows:List (List (List UInt8))):ElS:=elGo (rows.headD []).length (zcm rows) (rows.headD []).length
def kerK (rows:List (List (List UInt8))):List Int:=(kerS rows).piv.map fun x=>(((rows.headD []).length:Int) - 1) - x
def zb6 (rows:List (List (List UInt8))):List Int:=((List.range (rows.headD []).length).map fun (j:Nat)=>(j:Int)).filter fun x => !(zaN (kerK rows) x 0).isSome
def kerF (rows:List (List (List UInt8))):Nat -> Nat -> Rat:=kerX (kerS rows) (kerK rows) (zb6 rows) (rows.headD []).length
theorem zlq {r m b:Nat} {rows:List (List Int)} (hr:rows.length=r) (hm:∀ zs ∈ rows,zs.length=m) (hb:1 <= b) (hs:∀ zs ∈ rows,∀ z ∈ zs,Wd z b):∀ c,c <= m -> (elGo m rows c).piv.Pairwise (· < ·)
 | 0,_=>List.Pairwise.nil
 | c+1,h=>by
  have ih:=zlq hr hm hb hs c (by omega)
  have hI:=SInv.go hr hm hb hs c (by omega)
  show (zdV m (elGo m rows c) c).piv.Pairwise (· < ·)
  unfold zdV
  split
  ·exact ih
  ·show ((elGo m rows c).piv ++ [(c : Int)]).Pairwise (· < ·)
   rw [List.pairwise_append]
   exact ⟨ih,by simp,fun a ha b' hb'=>by rw [List.mem_singleton.1 hb']; exact (hI.pc a ha).2⟩
theorem zbA {rows:List (List (List UInt8))}:(zcm rows).length=rows.length:=by simp [zcm,zbg]
theorem zfE {rows:List (List (List UInt8))} {zs:List Int} (h:zs ∈ zcm rows):∃ r,r ∈ rows/\zs=(zb8 (r.map readQ)).reverse:=by
 unfold zcm zbg at h
 rw [List.map_map] at h
 obtain ⟨r,hr,rfl⟩:=List.mem_map.1 h
 exact ⟨r,hr,rfl⟩
structure KerOk (rows:List (List (List UInt8))) (m s:Nat):Prop where
 cols:∀ zs ∈ zcm rows,zs.length=m
 sz:∀ zs ∈ zcm rows,∀ z ∈ zs,Wd z (whB s)
theorem kerOk {rows:List (List (List UInt8))} {m s:Nat} (hm:∀ r ∈ rows,r.length=m) (hm65:m <= 65) (h2:2 <= s) (hs:∀ r ∈ rows,∀ x ∈ r,Sz (readQ x) s):KerOk rows m s:=
 ⟨fun zs hz => by
  obtain ⟨r,hr,rfl⟩:=zfE hz
  rw [List.length_reverse,zca,List.length_map,hm r hr],fun zs hz z hzz=>by
  obtain ⟨r,hr,rfl⟩:=zfE hz
  exact ze6 h2 (fun q hq=>by
   obtain ⟨x,hx,rfl⟩:=List.mem_map.1 hq
   exact hs r hr x hx) (by rw [List.length_map,hm r hr]; exact hm65) z (List.mem_reverse.1 hzz)⟩
structure VInv (w wr:World) (gq n i:Nat) (Zs:List (List Int)) (us:List Value):Prop where
 blk:Blk wr gq 136 us.toArray
 len:us.length=n
 rows:∀ (j:Nat) (u:Value) (zs:List Int),us[j]?=some u -> Zs[j]?=some zs -> ZAt wr u (if j < i then zs.reverse else zs)
 dist:∀ (i j:Nat) (u v:Value),i < j -> us[i]?=some u -> us[j]?=some v -> u.ownBlock ≠ v.ownBlock
 own:∀ (i:Nat) (u:Value),us[i]?=some u -> ∃ b,u.ownBlock=some b/\w.heap.size <= b
 nxt:Nxt w wr
theorem ZAt.form {w:World} {v:Value} {zs:List Int} (h:ZAt w v zs):∃ g,v = .slice (some ⟨g,0,none⟩) zs.length zs.length/\∃ us:List IV,Blk w g 98 (zaI us):=by
 obtain ⟨g,us,hv,hb,_⟩:=h
 exact ⟨g,hv,us,hb⟩
theorem VInv.step {w wr w':World} {gq n i g d:Nat} {Zs:List (List Int)} {us:List Value} {zs:List Int} (h:VInv w wr gq n i Zs us) (hu:us[i]?=some (.slice (some ⟨g,0,none⟩) d d)) (hz:Zs[i]?=some zs) (hr:ZAt w' (.slice (some ⟨g,0,none⟩) d d) zs.reverse)
  (hi:∀ (v:Value) (z:Int),IntIs wr v z -> IntIs w' v z) (hb:But wr [g] w'):VInv w w' gq n (i+1) Zs us:=by
 have h0:=h.rows i _ zs hu hz
 rw [if_neg (by omega)] at h0
 obtain ⟨g1,hv,l,hbl⟩:=h0.form
 have hg1:g1=g:=by
  injection hv with h1 _ _
  injection h1 with h1
  injection h1 with h1
  exact h1.symm
 subst hg1
 have hne:=hbl.ne_type h.blk (by decide)
 obtain ⟨b,hbo,hbw⟩:=h.own i _ hu
 have hgb:g1=b:=by simpa [Value.ownBlock] using hbo
 subst hgb
 refine ⟨zaY h.blk hb (by simp; exact fun e=>hne e.symm),h.len,fun j u ys hju hjy=>?_,h.dist,h.own,zek h.nxt hb (by intro r hr; rw [List.mem_singleton.1 hr]; exact hbw)⟩
 by_cases e:j=i
 ·subst e
  rw [hu] at hju
  obtain rfl:=zl hju
  rw [hz] at hjy
  obtain rfl:=zl hjy
  rw [if_pos (by omega)]
  exact hr
 ·have hc:(if j < i+1 then ys.reverse else ys)=if j < i then ys.reverse else ys:=by
   by_cases h1:j < i
   ·rw [if_pos h1,if_pos (by omega)]
   ·rw [if_neg h1,if_neg (by omega)]
  rw [hc]
  obtain ⟨g2,us2,hv2,hb2,hl2,hq2⟩:=h.rows j u ys hju hjy
  have hng:g2 ≠ g1:=by
   intro e2
   subst e2
   rcases Nat.lt_or_gt_of_ne e with h1 | h1
   ·exact h.dist j i u _ h1 hju hu (by rw [hv2]; rfl)
   ·exact h.dist i j _ u h1 hu hju (by rw [hv2]; rfl)
  exact ⟨g2,us2,hv2,zaY hb2 hb (by simp; exact hng),hl2,fun k x z a c=>hi _ _ (hq2 k x z a c)⟩
theorem MapAt.ne_blk {w:World} {g h c:Nat} {es:Array MapEntry} {t:TypeId} {vs:Array Value} (m:MapAt w g es c) (b:Blk w h t vs):g ≠ h:=by
 rintro rfl
 have h1:=m.out
 rw [b.out] at h1
 cases h1
structure PInv (w wr:World) (g5 g9 g10 gm m gr rl pl cc:Nat) (AA:Option Addr) (f:IV) (S:ElS) (K:List Int) (i:Nat):Prop where
 map:MapAt wr gm (zaX (K.take i) 0).toArray (K.take i).length
 b10:Blk wr g10 142 #[.map (some gm)]
 b9:Blk wr g9 140 #[.slice (some ⟨gr,0,none⟩) rl rl,.slice AA pl cc,.bool f.b,.slice f.m.A f.m.k f.m.c]
 b5:Blk wr g5 3 #[.int .i64 (m:Int)]
 ech:EchAt wr (.agg #[.slice (some ⟨gr,0,none⟩) rl rl,.slice AA pl cc,.bool f.b,.slice f.m.A f.m.k f.m.c]) S
 own:OwnI wr (.slice AA pl cc) S.piv
 new:w.heap.size <= gm
 nxt:Nxt w wr
theorem PInv.step {w wr:World} {g5 g9 g10 gm m gr rl pl cc:Nat} {AA:Option Addr} {f:IV} {S:ElS} {K:List Int} {i:Nat} (h:PInv w wr g5 g9 g10 gm m gr rl pl cc AA f S K i):PInv w (mapW wr gm (zaX (K.take (i+1)) 0).toArray (K.take (i+1)).length) g5 g9 g10 gm m gr rl pl cc AA f S K (i+1):=by
 have hm:=h.map
 have h1:=h.b10; have h2:=h.b9; have h3:=h.b5
 exact ⟨MapAt.set_ (k:=hm),Blk.map,Blk.map,Blk.map,h.ech.map_ hm,h.own.map_ hm,h.new,⟨ziE h.nxt.out h.new⟩⟩
theorem key_new {m i:Nat} {P:List Int} {x:Int} (ha:P.Pairwise (· < ·)) (hx:P[i]?=some x):∀ a ∈ (P.map fun x=>(m:Int) - 1 - x).take i,(m:Int) - 1 - x ≠ a:=by
 intro a h
 obtain ⟨j,hj⟩:=List.mem_iff_getElem?.1 h
 rw [List.getElem?_take] at hj
 by_cases hji:j < i
 ·rw [if_pos hji, List.getElem?_map] at hj
  cases hp:P[j]? with
  | none=>rw [hp] at hj; cases hj
  | some y=>
   rw [hp] at hj
   obtain rfl:=zl hj
   have hlt:y < x:=by
    obtain ⟨h1,e1⟩:=zh.1 hp
    obtain ⟨h2,e2⟩:=zh.1 hx
    rw [<- e1,<- e2]
    exact List.pairwise_iff_getElem.1 ha j i h1 h2 hji
   show (m:Int) - 1 - x ≠ (m:Int) - 1 - y
   omega
 ·rw [if_neg hji] at hj; cases hj
theorem znO {w:World} [hg:Glo w] {A:Option Addr} {n c:Nat} {rows:List (List (List UInt8))} (hm:MAt w A rows) (hkn:rows.length=n) (hn:n < 2 ^ 40) (hl:∀ r ∈ rows,∀ x ∈ r,x.length < 2 ^ 40)
  {s:Nat} (h2:2 <= s) (hs:∀ r ∈ rows,∀ x ∈ r,Sz (readQ x) s) (hsm:matE rows=0 -> elW (whB s) n <= 2 ^ 18):
  Calls Tryz.prog 37 #[.slice A n c] w (MRet w (matE rows) (kerF rows) (zb6 rows).length (rows.headD []).length):=by
 obtain ⟨E,hE⟩:∃ E,matE rows=E:=⟨_,rfl⟩
 have hC:=zc (fun (wq:World) (hx:Nxt w wq)=>zbT (c:=c) (hm.nxt hx) hkn hn hl)
 rw [hE] at hC hsm ⊢
 obtain ⟨m,hmm⟩:∃ m,(rows.headD []).length=m:=⟨_,rfl⟩
 rw [hmm]
 have HMM:=zc hmm
 by_cases h0:E=0
 ·subst h0
  have hok:MOk rows m:=by have:=zfz hE; rw [hmm] at this; exact this
  have hko:=kerOk hok.cols (by have:=hok.mle; omega) h2 hs
  obtain ⟨ada,Ba,ka,cca,rfl,hca,hla0,_⟩:=hm 0 _ (zeW hok.pos)
  rw [hmm] at hla0
  subst hla0
  have hca0:w.cell? ada=some (.slice Ba m cca):=by have h:=hca; rw [show ada.add 0=ada by unfold Addr.add; simp] at h; exact h
  have hpn:0 < n:=by rw [<- hkn]; exact hok.pos
  have hpn':(0:Int) < (n:Int):=by omega
  have hW:=zc (fun (wq:World) (hx:Nxt w wq)=>zi5 (c:=c) (hm.nxt hx) hkn hn (fun r hr=>by rw [hok.cols r hr]; have:=hok.mle; omega) hl hok.ok)
  have HSM:=zc (hsm rfl)
  have HL:=zc (fun (wq:World) (v:Value) (hv:ZMAt wq v (zcm rows))=>zeD (r:=n) (m:=m) (b:=whB s) hv (by rw [zbA,hkn]) hpn (by rw [<- hkn]; have:=hok.le; omega) hko.cols (by have:=hok.mle; omega) (by unfold whB; omega) hko.sz (zo (hsm rfl) (by decide)))
  have HINV:=zc (SInv.go (r:=n) (m:=m) (b:=whB s) (by rw [zbA,hkn]) hko.cols (by unfold whB; omega) hko.sz m (zv _))
  have HASC:=zc (zlq (r:=n) (m:=m) (b:=whB s) (by rw [zbA,hkn]) hko.cols (by unfold whB; omega) hko.sz m (zv _))
  have hS:elGo m (zcm rows) m=kerS rows:=by unfold kerS; rw [hmm]
  rw [hS] at HL HINV HASC
  have HOK:=zc hok; have HKN:=zc hkn
  have hn64:n <= 64:=by rw [<- hkn]; exact hok.le
  have hwl:(zbg rows).length=n:=by simp [zbg,hkn]
  have HWL:=zc hwl; have HN64:=zc hn64
  clear hm hkn hl h2 hs hsm hE hmm hok hko hca hpn hS hn64 hwl
  go_enter Tryz.func37,Tryz.ntmps37
  go_wp2_with fail
  refine zf (hC.out _ zaa) ?_
  rintro e w1 ⟨rfl,_⟩
  have c1:w1.cell? ada=some (.slice Ba m cca):=zaB (w:=w) zaa hca0
  go_upto_region 5 with fail
  have p1:Nxt w1 (w1.alloc (.cells #[.int .i64 (m:Int)] 3)):=zaa
  have p2:Blk (w1.alloc (.cells #[.int .i64 (m:Int)] 3)) w1.heap.size 3 #[.int .i64 (m:Int)]:=Blk.new
  obtain ⟨g5,hg5⟩:∃ g,w1.heap.size=g:=⟨_,rfl⟩
  rw [hg5] at p2
  (try rw [hg5])
  generalize w1.alloc (.cells #[.int .i64 (m:Int)] 3)=WC at *
  have hxc:Nxt w WC:=zaa
  have HXC:=zc hxc
  clear c1 p1 hca0
  go_wp2_with fail
  refine zf (hW.out _ hxc) ?_
  rintro e wM ⟨us,rfl,hbM,huM,hzM,hdM,hoM,hxM⟩
  obtain ⟨gq,hgq⟩:∃ g,WC.heap.size=g:=⟨_,rfl⟩
  have HV:=zc (show VInv WC wM WC.heap.size n 0 (zbg rows) us from ⟨hbM,huM,fun j u zs h1 h2=>by rw [if_neg (by omega)]; exact hzM j u zs h1 h2,hdM,hoM,hxM⟩)
  rw [hgq] at HV
  (try rw [hgq])
  clear hbM huM hzM hdM hoM hxM
  have HP2:=zc (show Blk wM g5 3 #[.int .i64 (m:Int)] from Blk.nxt (h:=HV.out.nxt) (k:=p2))
  clear p2
  go_wp2_with fail
  go_loopg [27] n (fun gk s27 wr=>∃ i:Nat,i <= n/\gk=n - i/\s27 = .int .i64 (i:Int)/\VInv WC wr gq n i (zbg rows) us/\Blk wr g5 3 #[.int .i64 (m:Int)])
  case atStart=>exact ⟨0,Nat.zero_le _,rfl,rfl,HV.out,HP2.out⟩
  case round=>
   obtain ⟨i,hi,rfl,rfl,hV,hp2⟩:=hrel
   have HVV:=zc hV; have HPP:=zc hp2
   clear hV
   by_cases hin:i < n
   ·have hlt : decide ((i : Int) < (n : Int)) = true := by simp; omega
    have hlt':(i:Int) < (n:Int):=by omega
    have hadd:IntKind.i64.wrap ((i:Int)+1)=((i+1:Nat):Int):=by have:=HN64.out; rw [zx]; omega
    obtain ⟨u,hu⟩:∃ u,us[i]?=some u:=⟨us[i]'(by rw [HVV.out.len]; exact hin),zg _⟩
    obtain ⟨zs,hzs⟩:∃ zs,(zbg rows)[i]?=some zs:=⟨(zbg rows)[i]'(by rw [HWL.out]; exact hin),zg _⟩
    have hz0:=HVV.out.rows i u zs hu hzs
    rw [if_neg (by omega)] at hz0
    obtain ⟨gz,hv,l,hbl⟩:=hz0.form
    obtain ⟨d,hd⟩:∃ d,zs.length=d:=⟨_,rfl⟩
    rw [hd] at hv
    subst hv
    have hcu:wr.cell? ⟨gq,i,none⟩=some (.slice (some ⟨gz,0,none⟩) d d):=(Blk.cell (k:=HVV.out.blk) (i:=i)).trans (by rw [List.getElem?_toArray]; exact hu)
    have HRV:=zc (zkm hz0 (by
     have hdm:zs.length=m:=by
      unfold zbg at hzs
      rw [List.getElem?_map] at hzs
      cases hr:rows[i]? with
      | none=>rw [hr] at hzs; cases hzs
      | some r=>
       rw [hr] at hzs
       obtain rfl:=zl hzs
       rw [zca,List.length_map,HOK.out.cols r (zk hr)]
     have:=HOK.out.mle; omega))
    have hne5:=hp2.ne_type hbl (by decide)
    have HU:=zc hu; have HZS:=zc hzs; have HIN:=zc hin; have HNE5:=zc hne5
    clear hz0 hu hzs hin hd hbl hp2 hne5 hi
    go_wp2_with fail
    refine zf HRV.out ?_
    rintro e w6 ⟨rfl,hz6,hi6,hb6⟩
    have HST:=zc (HVV.out.step HU.out HZS.out hz6 hi6 hb6)
    have HP6:=zc (zaY HPP.out hb6 (by simp; exact HNE5.out))
    clear hz6 hi6 hb6 hcu
    go_wp2_with fail
    go_roundg (n - (i+1))
    case measure=>have:=HIN.out; omega
    case rel=>exact ⟨i+1,HIN.out,rfl,rfl,HST.out,HP6.out⟩
   ·have hlt : decide ((i : Int) < (n : Int)) = false := decide_eq_false (by omega)
    have hlt':¬ (i:Int) < (n:Int):=by omega
    obtain rfl:i=n:=by omega
    have hzm:ZMAt wr (.slice (some ⟨gq,0,none⟩) i i) (zcm rows):=⟨gq,us,by rw [zbA,HKN.out],HVV.out.blk,by rw [zbA,HKN.out,HVV.out.len],fun j u zs hu hz=>by
     unfold zcm at hz
     rw [List.getElem?_map] at hz
     cases hr:(zbg rows)[j]? with
     | none=>rw [hr] at hz; cases hz
     | some ys=>
      rw [hr] at hz
      obtain rfl:ys.reverse=zs:=zl hz
      have h:=HVV.out.rows j u ys hu hr
      have hj:j < i:=by rw [<- HVV.out.len]; exact (zh.1 hu).1
      rw [if_pos hj] at h
      exact h⟩
    have HLL:=zc (HL.out wr _ hzm)
    have hxr:Nxt w wr:=⟨HXC.out.out.trans (HVV.out.nxt.out.mono HXC.out.out.size)⟩
    have HXR:=zc hxr
    clear hzm hi hin
    go_wp2_with fail
    refine zf HLL.out ?_
    rintro e wE ⟨ev,rfl,hec,hxE⟩
    have HEC:=zc hec
    obtain ⟨gr,us2,AA,cc,f,rfl,_,_,_,_,ho⟩:=hec
    have HOW:=zc ho
    clear ho
    obtain ⟨S,hS⟩:∃ S,kerS rows=S:=⟨_,rfl⟩
    rw [hS] at HEC HOW HINV HASC ⊢
    have HSS:=zc hS
    clear hS
    obtain ⟨rl,hrl⟩:∃ rl,S.rows.length=rl:=⟨_,rfl⟩
    obtain ⟨pl,hpl⟩:∃ pl,S.piv.length=pl:=⟨_,rfl⟩
    rw [hpl] at HOW
    rw [hrl,hpl]
    go_upto_region 13 with fail
    have e0:Nxt wE (((wE.alloc (.cells #[.slice (some ⟨gr,0,none⟩) rl rl,.slice AA pl cc,.bool f.b,.slice f.m.A f.m.k f.m.c] 140)).alloc (.map #[] 0)).alloc (.cells #[.map (some (wE.heap.size+1))] 142)):=zaa
    have e9:Blk (((wE.alloc (.cells #[.slice (some ⟨gr,0,none⟩) rl rl,.slice AA pl cc,.bool f.b,.slice f.m.A f.m.k f.m.c] 140)).alloc (.map #[] 0)).alloc (.cells #[.map (some (wE.heap.size+1))] 142)) wE.heap.size 140 #[.slice (some ⟨gr,0,none⟩) rl rl,.slice AA pl cc,.bool f.b,.slice f.m.A f.m.k f.m.c]:=za
    have em:MapAt (((wE.alloc (.cells #[.slice (some ⟨gr,0,none⟩) rl rl,.slice AA pl cc,.bool f.b,.slice f.m.A f.m.k f.m.c] 140)).alloc (.map #[] 0)).alloc (.cells #[.map (some (wE.heap.size+1))] 142)) (wE.heap.size+1) #[] 0:=za
    have e10:Blk (((wE.alloc (.cells #[.slice (some ⟨gr,0,none⟩) rl rl,.slice AA pl cc,.bool f.b,.slice f.m.A f.m.k f.m.c] 140)).alloc (.map #[] 0)).alloc (.cells #[.map (some (wE.heap.size+1))] 142)) (wE.heap.size+1+1) 142 #[.map (some (wE.heap.size+1))]:=za
    obtain ⟨g9,hg9⟩:∃ g,wE.heap.size=g:=⟨_,rfl⟩
    obtain ⟨gm,hgm⟩:∃ g,wE.heap.size+1=g:=⟨_,rfl⟩
    obtain ⟨g10,hg10⟩:∃ g,wE.heap.size+1+1=g:=⟨_,rfl⟩
    have hgmw:w.heap.size <= gm:=by
     have h1:=(show Nxt w wE from ⟨HXR.out.out.trans (hxE.out.mono HXR.out.out.size)⟩).out.size
     omega
    have hwW:Nxt w (((wE.alloc (.cells #[.slice (some ⟨gr,0,none⟩) rl rl,.slice AA pl cc,.bool f.b,.slice f.m.A f.m.k f.m.c] 140)).alloc (.map #[] 0)).alloc (.cells #[.map (some (wE.heap.size+1))] 142)):=zaa
    generalize (((wE.alloc (.cells #[.slice (some ⟨gr,0,none⟩) rl rl,.slice AA pl cc,.bool f.b,.slice f.m.A f.m.k f.m.c] 140)).alloc (.map #[] 0)).alloc (.cells #[.map (some (wE.heap.size+1))] 142))=WG at *
    (try rw [hgm] at e10)
    (try rw [hgm] at em)
    (try rw [hg9] at e9)
    have e5:Blk WG g5 3 #[.int .i64 (m:Int)]:=by
     have h:=HPP.out
     exact za
    obtain ⟨K,hK⟩:∃ K,kerK rows=K:=⟨_,rfl⟩
    have hK2:K=S.piv.map fun x=>(m:Int) - 1 - x:=by rw [<- hK]; unfold kerK; rw [HSS.out,HMM.out]
    have hec:=HEC.out.nxt e0
    rw [hrl,hpl] at hec
    have HP:=zc (show PInv w WG g5 g9 g10 gm m gr rl pl cc AA f S K 0 from ⟨by rw [List.take_zero]; exact em,by rw [<- hg10]; first | exact e10 | (rw [hgm]; exact e10),e9,e5,hec,HOW.out.nxt e0,hgmw,hwW⟩)
    (try rw [hg10])
    (try rw [hgm])
    (try rw [hg9])
    have HK:=zc hK; have HK2:=zc hK2; have HPL:=zc hpl; have HRL:=zc hrl
    have b9:=HP.out.b9
    clear e0 e9 em e10 e5 hec hwW hgmw hK hK2 hpl hrl hg9 hgm hg10 hxE
    go_wp2_with fail
    clear b9
    have HKL:=zc (show K.length=pl by rw [HK2.out,List.length_map]; exact HPL.out)
    go_loopg [40] pl (fun gk s40 wr=>∃ q:Nat,q <= pl/\gk=pl - q/\s40 = .int .i64 (q:Int)/\PInv w wr g5 g9 g10 gm m gr rl pl cc AA f S K q)
    case atStart=>exact ⟨0,Nat.zero_le _,rfl,rfl,HP.out⟩
    case round=>
     obtain ⟨t,ht,rfl,rfl,hP⟩:=hrel
     have HPP2:=zc hP
     have b10:=hP.b10; have b5:=hP.b5
     clear hP
     by_cases htp:t < pl
     ·have hlt : decide ((t : Int) < (pl : Int)) = true := by simp; omega
      have hlt':(t:Int) < (pl:Int):=by omega
      have hadd:IntKind.i64.wrap ((t:Int)+1)=((t+1:Nat):Int):=by have:=HINV.out.pm; have:=HPL.out; have:=HOK.out.mle; rw [zx]; omega
      obtain ⟨x,hx⟩:∃ x,S.piv[t]?=some x:=⟨S.piv[t]'(by rw [HPL.out]; exact htp),zg _⟩
      obtain ⟨hx1,hx2⟩:=HINV.out.pc x (zk hx)
      obtain ⟨gp,hAA,hcell⟩:=HPP2.out.own.at_.2 t x hx
      obtain ⟨y,rfl⟩:∃ y:Nat,x=(y:Int):=⟨x.toNat,by omega⟩
      obtain ⟨pp,hpp⟩:∃ pp,pp+1=m:=⟨m - 1,by have:=HOK.out.mpos; omega⟩
      obtain ⟨qq,hqq⟩:∃ qq,qq+y=pp:=⟨pp - y,by omega⟩
      have hw1:IntKind.i64.wrap ((m:Int) - 1)=(pp:Int):=by have:=HOK.out.mle; rw [zx]; omega
      have hw2:IntKind.i64.wrap ((pp:Int) - (y:Int))=(qq:Int):=by have:=HOK.out.mle; rw [zx]; omega
      have hkt:K[t]?=some (qq:Int):=by
       rw [HK2.out,List.getElem?_map,hx]
       show some ((m:Int) - 1 - (y:Int))=_
       congr 1; omega
      have hlen:(K.take t).length=t:=by rw [List.length_take,HKL.out]; omega
      have hup:=ziR (w:=wr) (k:=(qq:Int)) HPP2.out.map (by
       have h:=key_new (m:=m) HASC.out hx
       rw [<- HK2.out] at h
       have e:(m:Int) - 1 - (y:Int)=(qq:Int):=by omega
       rw [e] at h; exact h)
      rw [<- zbK hkt,hlen] at hup
      have HST:=zc HPP2.out.step
      have HTP:=zc htp
      clear hx hx1 hx2 hpp hqq hkt hlen htp ht
      subst hAA
      go_wp2_with fail
      go_roundg (pl - (t+1))
      case measure=>have:=HTP.out; omega
      case rel=>exact ⟨t+1,HTP.out,rfl,rfl,by have h:=HST.out; rw [List.length_take] at h; exact h⟩
     ·have hlt : decide ((t : Int) < (pl : Int)) = false := decide_eq_false (by omega)
      have hlt':¬ (t:Int) < (pl:Int):=by omega
      obtain rfl:t=pl:=by omega
      clear ht htp
      have hmap:MapAt wr gm (zaX K 0).toArray K.length:=by
       have h:=HPP2.out.map
       rw [List.take_of_length_le (by rw [HKL.out]; exact zv _)] at h
       exact h
      have HMAP:=zc hmap
      clear hmap
      go_wp2_with fail
      refine zf (zjz m (by have:=HOK.out.mle; omega) _) ?_
      rintro e wU ⟨rfl,hbU,hxU⟩
      obtain ⟨gf,hgf⟩:∃ g,wr.heap.size=g:=⟨_,rfl⟩
      rw [hgf] at hbU
      (try rw [hgf])
      have b10U:Blk wU g10 142 #[.map (some gm)]:=Blk.nxt
      have hmU:=HMAP.out.nxt (h:=hxU)
      have HDF:=zc (zio (n:=111) (caps:=#[.pointer (some ⟨g10,0,none⟩)]) (g:=gf) (k:=m) (p:=fun x=>(zaN K x 0).isSome) (w:=wU) (fun args w=>by kernel_rfl) hbU (by simp) (by have:=HOK.out.mle; omega) (fun x _ wz hz=>keyIn_c (zaY b10U hz (by simp; exact b10U.ne_type hbU (by decide))) (MapAt.but hmU hz (by simp; exact hmU.ne_blk hbU))))
      have hfree:((List.range m).map fun (j:Nat)=>(j:Int)).filter (fun x => !(zaN K x 0).isSome)=zb6 rows:=by unfold zb6; rw [HK.out,HMM.out]
      rw [hfree] at HDF
      have HBU:=zc hbU; have HXU:=zc hxU; have HFREE:=zc hfree
      clear hfree hbU b10U hmU b10 b5
      go_wp2_with fail
      refine zf HDF.out ?_
      rintro e wD ⟨ud,rfl,hbD,hfD,hbutD⟩
      obtain ⟨fl,hfl⟩:∃ fl,(zb6 rows).length=fl:=⟨_,rfl⟩
      rw [hfl]
      have hgf5:gf ∉ []:=by simp
      have hP0:=HPP2.out
      have t10:Blk wD g10 142 #[.map (some gm)]:=by
       have h:Blk wU g10 142 #[.map (some gm)]:=Blk.nxt (h:=HXU.out) (k:=hP0.b10)
       exact zaY h hbutD (by simp; exact h.ne_type HBU.out (by decide))
      have tm:MapAt wD gm (zaX K 0).toArray K.length:=by
       have h:=HMAP.out.nxt (h:=HXU.out)
       exact MapAt.but h hbutD (by simp; exact h.ne_blk HBU.out)
      have t9:Blk wD g9 140 #[.slice (some ⟨gr,0,none⟩) rl rl,.slice AA t cc,.bool f.b,.slice f.m.A f.m.k f.m.c]:=by
       have h:Blk wU g9 140 #[.slice (some ⟨gr,0,none⟩) rl rl,.slice AA t cc,.bool f.b,.slice f.m.A f.m.k f.m.c]:=Blk.nxt (h:=HXU.out) (k:=hP0.b9)
       exact zaY h hbutD (by simp; exact h.ne_type HBU.out (by decide))
      have t5:Blk wD g5 3 #[.int .i64 (m:Int)]:=by
       have h:Blk wU g5 3 #[.int .i64 (m:Int)]:=Blk.nxt (h:=HXU.out) (k:=hP0.b5)
       have hlt:=hP0.b5.lt
       exact zaY h hbutD (by simp; omega)
      have hwU:Nxt w wD:=zek (⟨hP0.nxt.out.trans (HXU.out.out.mono hP0.nxt.out.size)⟩:Nxt w wU) hbutD (by intro r hr; rw [List.mem_singleton.1 hr]; have:=hP0.nxt.out.size; omega)
      have hech:EchAt wD (.agg #[.slice (some ⟨gr,0,none⟩) rl rl,.slice AA t cc,.bool f.b,.slice f.m.A f.m.k f.m.c]) S:=by
       obtain ⟨gr',us',A',c',f',hv,hR',hl',hz',hf',ho'⟩:=hP0.ech.nxt HXU.out
       refine ⟨gr',us',A',c',f',hv,zaY hR' hbutD (by simp; exact hR'.ne_type HBU.out (by decide)),hl',fun a b zs e1 e2=>(hz' a b zs e1 e2).butW hbutD HBU.out (fun i=>zfM) (by decide),hf'.butW hbutD HBU.out (fun i=>zfM),ho'.but hbutD (fun g hg=>?_)⟩
       intro hmem
       obtain rfl:g=gf:=by simpa using hmem
       rcases ho' with ⟨e1,_⟩ | ⟨g1,tl,e1,_,hb1⟩
       ·rw [e1] at hg; cases hg
       ·rw [e1] at hg
        obtain rfl:g1=g:=by simpa [Value.ownBlock] using hg
        have hlt:g1 < wr.heap.size:=by
         rcases hP0.ech with ⟨gr2,us3,A2,c2,f2,hv2,_,_,_,_,ho2⟩
         have hv3:=hv.symm.trans hv2
         injection hv3 with hv3
         have hv4:=congrArg (fun a=>a[1]?) hv3
         simp only [List.getElem?_toArray,List.getElem?_cons_succ,List.getElem?_cons_zero] at hv4
         have hv5:=zl hv4
         rcases ho2 with ⟨e2,_⟩ | ⟨g2,tl2,e2,_,hb2⟩
         ·rw [<- hv5,e1] at e2; cases e2
         ·rw [<- hv5, e1] at e2
          injection e2 with e3 _ _
          injection e3 with e3
          injection e3 with e3
          rw [e3]; exact hb2.lt
        omega
      have HT10:=zc t10; have HTM:=zc tm; have HT9:=zc t9; have HT5:=zc t5; have HWU:=zc hwU; have HECH:=zc hech; have HBD:=zc hbD; have HFD:=zc hfD; have HFL:=zc hfl
      clear t10 tm t9 hwU hech hbD hfD hfl hbutD hP0 hgf5 hxU
      go_upto_region 19 with fail
      have u0:Nxt wD (wD.alloc (.cells #[.slice (some ⟨gf,0,none⟩) fl m] 91)):=zaa
      have u13:Blk (wD.alloc (.cells #[.slice (some ⟨gf,0,none⟩) fl m] 91)) wD.heap.size 91 #[.slice (some ⟨gf,0,none⟩) fl m]:=Blk.new
      obtain ⟨g13,hg13⟩:∃ g,wD.heap.size=g:=⟨_,rfl⟩
      rw [hg13] at u13
      (try rw [hg13])
      generalize wD.alloc (.cells #[.slice (some ⟨gf,0,none⟩) fl m] 91)=WF at *
      have u5:Blk WF g5 3 #[.int .i64 (m:Int)]:=Blk.nxt (h:=u0) (k:=HT5.out)
      have hwF:Nxt w WF:=⟨HWU.out.out.trans (u0.out.mono HWU.out.out.size)⟩
      have hgF:Glo WF:=za
      have hin:∀ x ∈ zb6 rows,0 <= x/\x < (m:Int):=fun x hx=>by
       unfold zb6 at hx
       rw [HMM.out] at hx
       obtain ⟨h1,_⟩:=List.mem_filter.1 hx
       obtain ⟨y,hy,rfl⟩:=List.mem_map.1 h1
       have:=List.mem_range.1 hy
       omega
      have hflm:fl <= m:=by
       rw [<- HFL.out]
       unfold zb6
       rw [HMM.out]
       exact zo (List.length_filter_le _ _) (by simp)
      have hrow:∀ (j:Nat) (r:Nat),zaN K (j:Int) 0=some r -> ∃ row,S.rows[r]?=some row/\row.length=m/\∀ z ∈ row,Wd z (elW (whB s) S.piv.length):=fun j r hr=>by
       have h1:=(zdS hr).2
       rw [Nat.sub_zero] at h1
       have h2:r < S.rows.length:=by
        have h3:=(zh.1 h1).1
        have h4:=HINV.out.pl
        have h5:=HINV.out.rl
        have h6:=HKL.out
        have h7:=HPL.out
        omega
       exact ⟨S.rows[r],zg h2,HINV.out.ml _ (List.getElem_mem h2),HINV.out.sz _ (List.getElem_mem h2)⟩
      have hbig:elW (whB s) S.piv.length <= 2 ^ 18:=zo (zdU (by have:=HINV.out.pl; have:=HINV.out.rl; omega)) HSM.out
      have hF:∀ i' j:Nat,kerF rows i' j=kerX S K (zb6 rows) m i' j:=fun i' j=>by unfold kerF; rw [HSS.out,HK.out,HMM.out]
      have HW:=zc (zdq (n:=113) (caps:=#[.pointer (some ⟨g10,0,none⟩),.pointer (some ⟨g9,0,none⟩),.pointer (some ⟨g5,0,none⟩),.pointer (some ⟨g13,0,none⟩)]) (r:=fl) (c:=m) (a:=2 ^ 20) (F:=kerF rows) (w:=WF) (fun args w=>by kernel_rfl) (by have:=HOK.out.mle; omega) (by have:=HOK.out.mle; omega) (zv _)
       (fun i' j hi hj => by
        rw [hF]
        unfold kerX
        split
        ·rename_i r hr
         obtain ⟨row,h1,h2,h3⟩:=hrow j r hr
         have d1:Wd ((S.rows.getD r []).getD (m - 1 - ((zb6 rows).getD i' 0).toNat) 0) (elW (whB s) S.piv.length):=zbG (by rw [za3 h1]; exact h3)
         have d2:=HINV.out.fs
         have d5:Sz (-(Rat.divInt ((S.rows.getD r []).getD (m - 1 - ((zb6 rows).getD i' 0).toNat) 0) S.fac)) (elW (whB s) S.piv.length+elW (whB s) S.piv.length+1):=zjF
         exact ⟨zo d5.num (by omega),zo d5.den (by omega)⟩
        ·split
         ·exact ⟨zo (by decide +kernel:wl (1:Rat).num.natAbs <= 2) (by decide),zo (by decide +kernel:wl (1:Rat).den <= 2) (by decide)⟩
         ·exact ⟨zo zeP.1 (by decide),zo zeP.2 (by decide)⟩)
       (fun i' j hi hj wz hz => by
        rw [hF]
        have hnz:Nxt wD wz:=⟨u0.out.trans (hz.out.mono u0.out.size)⟩
        exact kerAt_c (a:=elW (whB s) S.piv.length) (gm:=gm) (us:=ud) (gf:=gf) (k:=m) (Blk.nxt (h:=hnz) (k:=HT10.out)) (HTM.out.nxt (h:=hnz)) (Blk.nxt (h:=hnz) (k:=HT9.out)) (HECH.out.nxt hnz) (Blk.nxt (h:=hz) (k:=u5)) (by rw [HFL.out]; exact Blk.nxt (h:=hz) (k:=u13)) (Blk.nxt (h:=hnz) (k:=HBD.out)) HFD.out (by rw [HFL.out]; exact hi) hin (by have:=HOK.out.mle; omega) (hrow j) HINV.out.fs (by omega)))
      have HQ:=zc hwF
      clear hwF hin hflm hrow hbig hF u0 t5
      go_wp2_with fail
      refine zf HW.out ?_
      rintro e wZ hz
      have HZ:=zc (show MRet w 0 (kerF rows) fl m e wZ from .inr ⟨rfl,WF,HQ.out,hz⟩)
      rcases hz with ⟨_,rfl,_⟩ | ⟨_,rfl,_⟩
      all_goals go_wp2_with fail
      all_goals go_ret2
      all_goals (rw [HFL.out]; exact HZ.out)
 ·have hb : (E != 0) = true := by simpa using h0
  clear hm hkn hl h2 hs hsm hE hmm
  go_enter Tryz.func37,Tryz.ntmps37
  go_wp2_with fail
  refine zf (hC.out _ zaa) ?_
  rintro e w1 ⟨rfl,_⟩
  go_wp2_with fail
  go_ret2
  exact .inl ⟨h0,rfl,zaa⟩
end Go.Proofs.YtombhkpniddceaaGreatDoor
