import Derived.Test.YtombhkpniddceaaGreatDoorM27
import Derived.Test.YtombhkpniddceaaGreatDoorM28
set_option maxHeartbeats 12800000
set_option maxRecDepth 100000
set_option synthInstance.maxSize 20000
set_option linter.all false
namespace Go.Proofs.YtombhkpniddceaaGreatDoor
open Go.RowKit
def RowT (w:World) (v:Value) (l:List (List UInt8)):Prop:=∃ (g cap:Nat) (cs:Array Value),v = .slice (some ⟨g,0,none⟩) l.length cap/\Blk w g 22 cs/\∀ (i:Nat) (x:List UInt8),l[i]?=some x -> cs[i]?=some (str x)
theorem RowT.nxt {w w':World} {v:Value} {l:List (List UInt8)} (h:RowT w v l) (hn:Nxt w w'):RowT w' v l:=by
 obtain ⟨g,cap,cs,hv,hb,hc⟩:=h
 exact ⟨g,cap,cs,hv,Blk.nxt,hc⟩
theorem RowT.set_ {w:World} {v x:Value} {l:List (List UInt8)} {g j:Nat} {t:TypeId} {vs:Array Value} (h:RowT w v l) (hb:Blk w g t vs) (ht:22 ≠ t):RowT (w.setCell ⟨g,j,none⟩ x) v l:=by
 obtain ⟨g1,cap,cs,hv,h1,hc⟩:=h
 exact ⟨g1,cap,cs,hv,Blk.far (k:=h1) (h:=h1.apart_type hb ht),hc⟩
theorem RowT.sat {w:World} {A:Option Addr} {k c:Nat} {l:List (List UInt8)} (h:RowT w (.slice A k c) l):l.length=k/\SAt w A l:=by
 obtain ⟨g,cap,cs,hv,hb,hc⟩:=h
 injection hv with h1 h2 h3
 subst h1
 refine ⟨h2.symm,fun i x hx=>⟨_,rfl,?_⟩⟩
 have e:(⟨g,0,none⟩:Addr).add i=⟨g,i,none⟩:=by unfold Addr.add; split <;> simp_all
 rw [e]
 exact (Blk.cell (k:=hb) (i:=i)).trans (hc i x hx)
theorem RowT.of_own {w:World} {base n:Nat} {v:Value} {l:List (List UInt8)} (h:w.ownsRow base 22 1 v n (l.map str)) (hne:l ≠ []):RowT w v l:=by
 obtain ⟨hl,⟨_,hn⟩ | ⟨g,cap,cur,hv,_,hg,_,_,_,ht⟩⟩:=h
 ·exfalso
  have:l.length=0:=by simpa [hn] using hl
  exact hne (List.eq_nil_of_length_eq_zero this)
 ·have hn : l.length = n := by simpa using hl
  refine ⟨g,cap,cur,by rw [hn]; exact hv,⟨hg⟩,fun i x hx=>?_⟩
  have hi:(l.map str)[i]?=some (str x):=by rw [List.getElem?_map,hx]; rfl
  rw [<- ht,List.getElem?_take] at hi
  split at hi
  ·rw [<- Array.getElem?_toList]; exact hi
  ·cases hi
theorem zhN (l:List (List UInt8)):∀ v ∈ l.map str,v.oneCell'=true:=by
 intro v hv
 obtain ⟨x,_,rfl⟩:=List.mem_map.1 hv
 rfl
theorem znD {w:World} {A:Option Addr} {c k:Nat} {l:List (List UInt8)} (hs:SAt w A l) (hk:l.length=k) (h0:0 < k) (hn:k < 2 ^ 30):
  Calls Tryz.prog 130 #[.slice A k c] w (fun e w'=>∃ v,e = .returned v/\w'.ownsRow w.heap.size 22 1 v k (l.map str)/\Nxt w w'):=by
 obtain ⟨x0,hx0⟩:∃ x,l[0]?=some x:=⟨l[0]'(by omega),zg _⟩
 obtain ⟨ad,rfl,_⟩:=hs 0 x0 hx0
 have hq:=fun w:World=>Lib.run_eql_slice_nil (P:=Tryz.prog) w 59 22 (some ad) k c 0 0 Tryz.underlying59
 obtain ⟨i0,hi0,hz0,hz1,hz2⟩:=info_parts zfa
 have hown:(w.alloc (.cells #[] 22)).ownsRow w.heap.size 22 1 (.slice (some ⟨w.heap.size,0,none⟩) 0 0) 0 []:=
  ⟨rfl,.inr ⟨w.heap.size,0,#[],rfl,zv _,heap_alloc_new w _,zv _,Nat.zero_le _,rfl,rfl⟩⟩
 have HC:Hid (∀ (j:Nat) u,(l.map str)[j]?=some u -> (w.alloc (.cells #[] 22)).cell? (ad.add j)=some u):=by
  intro j v hv
  simp only [List.getElem?_map,Option.map_eq_some_iff] at hv
  obtain ⟨x,hj,rfl⟩:=hv
  obtain ⟨ad',e,hc⟩:=hs j x hj
  cases e
  exact zaB zaa hc
 have HK:=zc hk; have HN:=zc hn
 clear hk hs hx0 hn
 go_enter Tryz.func130,Tryz.ntmps130
 go_wp2_with (at_builtin; refine wpList_append_own _ rfl (.tmp 5) (.tmp 6) _ rfl w.heap.size 22 i0 _ 1 16 Tryz.underlying59 hi0 hz0 hz1 hz2 rfl (by decide) _ _ _ rfl hown ad k c (l.map str) rfl (by rw [List.length_map,HK.out,Nat.mul_one]) HC.out (zhN l) (by have:=HN.out; unfold maxLen; omega) (by have:=HN.out; omega) (by rw [World.size_alloc]; omega) ?_; intro v1 w1 hown1 hgrow1 _)
 rw [Nat.zero_add,List.nil_append] at hown1
 have hbe:Below w.heap.size w w1:=((Below.refl _ _).alloc (zv _) _).grown hgrow1 (by simp) (by rintro k hk; cases hk; exact zv _)
 have HO:=zc hown1; have HB:=zc hbe
 clear hown1 hgrow1 HC hown hbe
 go_wp2_with fail
 go_ret
 exact ⟨v1,rfl,HO.out,⟨HB.out⟩⟩
theorem MAt.nxt {w w':World} {A:Option Addr} {rows:List (List (List UInt8))} (h:MAt w A rows) (hn:Nxt w w'):MAt w' A rows:=fun i r hr=>by
 obtain ⟨ad,B,k,c,ha,hc,hl,hs⟩:=h i r hr
 exact ⟨ad,B,k,c,ha,zaB hn hc,hl,hs.nxt hn⟩
theorem zcr:∀ {l:List Int},zay l=0 -> ∀ e ∈ l,e=0
 | [],_,e,h=>by cases h
 | a :: l,h,e,he=>by
  unfold zay at h
  by_cases ha:a=0
  ·rw [if_pos ha] at h
   rcases List.mem_cons.1 he with rfl | he
   ·exact ha
   ·exact zcr h e he
  ·rw [if_neg ha] at h; exact absurd h ha
structure MOk (rows:List (List (List UInt8))) (m:Nat):Prop where
 pos:0 < rows.length
 le:rows.length <= 64
 cols:∀ r ∈ rows,r.length=m
 mpos:0 < m
 mle:m <= 64
 ok:∀ r ∈ rows,∀ x ∈ r,readE x=0
theorem ziz {n:Nat} (h:cntE n=0):0 < n/\n <= 64:=by
 unfold cntE at h
 split at h
 ·cases h
 ·split at h
  ·cases h
  ·omega
theorem zfz {rows:List (List (List UInt8))} (h:matE rows=0):MOk rows (rows.headD []).length:=by
 unfold matE at h
 by_cases h0:cntE rows.length=0
 ·rw [if_neg (fun h => h h0)] at h
  obtain ⟨hp,hl⟩:=ziz h0
  have hall:=zcr h
  have hrow:∀ r ∈ rows,cntE r.length=0/\r.length=(rows.headD []).length/\∀ x ∈ r,readE x=0:=by
   intro r hr
   have he:=hall (rowE (rows.headD []).length r) (List.mem_map.2 ⟨r,hr,rfl⟩)
   unfold rowE at he
   by_cases h1:cntE r.length=0
   ·rw [if_neg (fun h => h h1)] at he
    by_cases h2:r.length=(rows.headD []).length
    ·rw [if_neg (fun h => h h2)] at he
     exact ⟨h1,h2,fun x hx=>zcr he _ (List.mem_map.2 ⟨x,hx,rfl⟩)⟩
    ·rw [if_pos h2] at he; cases he
   ·rw [if_pos h1] at he; exact absurd he h1
  obtain ⟨r0,h0r⟩:∃ r,r ∈ rows:=⟨rows[0],List.getElem_mem hp⟩
  obtain ⟨a1,a2,_⟩:=hrow r0 h0r
  obtain ⟨b1,b2⟩:=ziz a1
  exact ⟨hp,hl,fun r hr=>(hrow r hr).2.1,by omega,by omega,fun r hr=>(hrow r hr).2.2⟩
 ·rw [if_pos h0] at h; exact absurd h h0
def mulE (ra rb:List (List (List UInt8))):Int:=if or2 (matE ra) (matE rb) ≠ 0 then or2 (matE ra) (matE rb) else if (ra.headD []).length ≠ rb.length then 2 else 0
def MRet (w:World) (E:Int) (F:Nat -> Nat -> Rat) (r c:Nat) (e:Ending) (w':World):Prop:=
 (E ≠ 0/\e = .returned (.tuple #[.slice none 0 0,.int .i64 E])/\Nxt w w') ∨ (E=0/\∃ wq,Nxt w wq/\WRet wq F r c e w')
theorem WRet.ok {w:World} {F:Nat -> Nat -> Rat} {r c:Nat} {e:Ending} {w':World} (h:WRet w F r c e w') (hf:∀ i j,i < r -> j < c -> Fits (F i j)):∃ A,e = .returned (.tuple #[.slice A r r,.int .i64 0])/\MAt w' A ((List.range r).map (trow F c))/\Nxt w w':=by
 rcases h with ⟨_,he,us,hI⟩ | ⟨⟨i,j,hi,hj,hn⟩,_⟩
 ·refine ⟨_, he, fun i row hrow => ?_, hI.nxt⟩
  have hi:i < r:=by simpa using (zh.1 hrow).1
  obtain rfl:trow F c i=row:=by
   rw [List.getElem?_map,List.getElem?_range hi] at hrow
   exact zl hrow
  have hu:us[i]?=some (us[i]'(by rw [hI.len]; exact hi)):=zg _
  have ht:=hI.done i _ hi hu
  obtain ⟨g,hv,hb⟩:=ht
  refine ⟨⟨w.heap.size,0,none⟩,some ⟨g,0,none⟩,(trow F c i).length,(trow F c i).length,rfl,?_,rfl,?_⟩
  ·have e : (⟨w.heap.size, 0, none⟩ : Addr).add i = ⟨w.heap.size, i, none⟩ := by unfold Addr.add; split <;> simp_all
   rw [e,<- hv]
   exact (Blk.cell (k:=hI.blk) (i:=i)).trans (by rw [List.getElem?_toArray]; exact hu)
  ·exact (TAt.sat (h:=g) (c:=(trow F c i).length) ⟨g,rfl,hb⟩).2
 ·exact absurd (hf i j hi hj) hn
def mulF (ra rb:List (List (List UInt8))) (i j:Nat):Rat:=dotQ ((ra.getD i []).map readQ) (rb.map (·.map readQ)) j rb.length
theorem zjW {l:List (List UInt8)}:∀ q ∈ l.map readQ,Sz q 600:=by
 intro q hq
 obtain ⟨x,_,rfl⟩:=List.mem_map.1 hq
 infer_instance
theorem zeW {rows:List (List (List UInt8))} (h:0 < rows.length):rows[0]?=some (rows.headD []):=by
 cases rows with
 | nil=>simp at h
 | cons a t=>rfl
theorem zkS {w:World} [hg:Glo w] {A B:Option Addr} {na ca nb cb:Nat} {ra rb:List (List (List UInt8))} (hma:MAt w A ra) (hka:ra.length=na) (hna:na < 2 ^ 40) (hla:∀ r ∈ ra,∀ x ∈ r,x.length < 2 ^ 40)
  (hmb:MAt w B rb) (hkb:rb.length=nb) (hnb:nb < 2 ^ 40) (hlb:∀ r ∈ rb,∀ x ∈ r,x.length < 2 ^ 40):
  Calls Tryz.prog 39 #[.slice A na ca,.slice B nb cb] w (MRet w (mulE ra rb) (mulF ra rb) na (rb.headD []).length):=by
 obtain ⟨E0,hE0⟩:∃ E,or2 (matE ra) (matE rb)=E:=⟨_,rfl⟩
 obtain ⟨E,hE⟩:∃ E,mulE ra rb=E:=⟨_,rfl⟩
 have hE':(if E0 ≠ 0 then E0 else if (ra.headD []).length ≠ nb then 2 else 0)=E:=by rw [<- hE,<- hE0,<- hkb]; rfl
 have hC1:=zc (fun (wq:World) (hx:Nxt w wq)=>zbT (c:=ca) (hma.nxt hx) hka hna hla)
 have hC2:=zc (fun (wq:World) (hx:Nxt w wq)=>zbT (c:=cb) (hmb.nxt hx) hkb hnb hlb)
 have HMA:=zc hma; have HMB:=zc hmb; have HKA:=zc hka; have HKB:=zc hkb; have HLA:=zc hla; have HLB:=zc hlb; have HE:=zc hE; have HE0:=zc hE0; have HE':=zc hE'
 rw [hE]
 obtain ⟨cc,hcc⟩:∃ cc,(rb.headD []).length=cc:=⟨_,rfl⟩
 rw [hcc]
 have HCC:=zc hcc
 clear hma hmb hka hkb hla hlb hE hE0 hE' hcc
 by_cases h0:E0=0
 ·have hok:MOk ra (ra.headD []).length/\MOk rb cc:=by
   have h:=zeT (HE0.out.trans h0)
   exact ⟨zfz h.1,by have:=zfz h.2; rw [HCC.out] at this; exact this⟩
  obtain ⟨ma,hma⟩:∃ ma,(ra.headD []).length=ma:=⟨_,rfl⟩
  rw [hma] at hok HE'
  have HMM:=zc hma
  obtain ⟨ada,Ba,ka,cca,hAa,hca,hla0,_⟩:=HMA.out 0 _ (zeW hok.1.pos)
  obtain ⟨adb,Bb,kb,ccb,hAb,hcb,hlb0,_⟩:=HMB.out 0 _ (zeW hok.2.pos)
  rw [hma] at hla0
  rw [HCC.out] at hlb0
  subst hla0 hlb0 hAa hAb
  have HOK:=zc hok
  have hE00:=HE0.out.trans h0
  have HE00:=zc hE00
  have hpa:0 < na:=by rw [<- HKA.out]; exact hok.1.pos
  have hpb:0 < nb:=by rw [<- HKB.out]; exact hok.2.pos
  have hpa':(0:Int) < (na:Int):=by omega
  have hpb':(0:Int) < (nb:Int):=by omega
  have hca0:w.cell? ada=some (.slice Ba ma cca):=by have h:=hca; rw [show ada.add 0=ada by unfold Addr.add; simp] at h; exact h
  have hcb0:w.cell? adb=some (.slice Bb cc ccb):=by have h:=hcb; rw [show adb.add 0=adb by unfold Addr.add; simp] at h; exact h
  have HCA:=zc hca0; have HCB:=zc hcb0
  clear hok hma hca hcb hE00 hpa hpb hca0 hcb0
  go_enter Tryz.func39,Tryz.ntmps39
  go_wp2_with fail
  refine zf (hC1.out _ zaa) ?_
  rintro e w1 ⟨rfl,_⟩
  go_wp2_with fail
  refine zf (hC2.out _ zaa) ?_
  rintro e w1 ⟨rfl,_⟩
  go_wp2_with fail
  refine zf (zaH) ?_
  rintro e w1 ⟨rfl,_⟩
  rw [HE00.out]
  have hxx:Nxt w w1:=zaa
  have c1:=zaB hxx HCA.out
  have hAR:=zc (fun (wq:World) (hx:Nxt w wq)=>zeA (c:=ca) (HMA.out.nxt hx) HKA.out (by have:=HOK.out.1.le; have:=HKA.out; omega) (fun r hr=>by have:=HOK.out.1.cols r hr; have:=HOK.out.1.mle; omega) HLA.out HOK.out.1.ok)
  have hBR:=zc (fun (wq:World) (hx:Nxt w wq)=>zeA (c:=cb) (HMB.out.nxt hx) HKB.out (by have:=HOK.out.2.le; have:=HKB.out; omega) (fun r hr=>by have:=HOK.out.2.cols r hr; have:=HOK.out.2.mle; omega) HLB.out HOK.out.2.ok)
  by_cases hsh:ma=nb
  ·have hE := HE'.out
   rw [if_neg (fun h=>h h0),if_neg (fun h=>h hsh)] at hE
   have HEE:=zc hE
   have hsh':((ma:Int) != (nb:Int))=false:=by simp; omega
   have HSH:=zc hsh
   clear hE hsh
   go_wp2_with fail
   refine zf (hAR.out _ hxx) ?_
   rintro e wA ⟨rfl,hra,hxa⟩
   have HRA:=zc hra
   have hxA:Nxt w wA:=zaa
   clear hra c1
   go_wp2_with fail
   refine zf (hBR.out _ hxA) ?_
   rintro e wB ⟨rfl,hrb,hxb⟩
   obtain ⟨ga,hga⟩:∃ g,w1.heap.size=g:=⟨_,rfl⟩
   obtain ⟨gb,hgb⟩:∃ g,wA.heap.size=g:=⟨_,rfl⟩
   rw [hgb] at hrb
   have HRA1:=zc (HRA.out.nxt hxb)
   rw [hga] at HRA1
   have HRB:=zc hrb
   have hxB:Nxt w wB:=zaa
   clear hrb
   go_upto_region 7 with fail
   have q1:Blk ((wB.alloc (.cells #[.slice (some ⟨ga,0,none⟩) na na] 151)).alloc (.cells #[.slice (some ⟨gb,0,none⟩) nb nb] 151)) wB.heap.size 151 #[.slice (some ⟨ga,0,none⟩) na na]:=za
   have q2:Blk ((wB.alloc (.cells #[.slice (some ⟨ga,0,none⟩) na na] 151)).alloc (.cells #[.slice (some ⟨gb,0,none⟩) nb nb] 151)) (wB.heap.size+1) 151 #[.slice (some ⟨gb,0,none⟩) nb nb]:=za
   have q3:Nxt wB ((wB.alloc (.cells #[.slice (some ⟨ga,0,none⟩) na na] 151)).alloc (.cells #[.slice (some ⟨gb,0,none⟩) nb nb] 151)):=zaa
   (try rw [hga])
   (try rw [hgb])
   generalize (wB.alloc (.cells #[.slice (some ⟨ga,0,none⟩) na na] 151)).alloc (.cells #[.slice (some ⟨gb,0,none⟩) nb nb] 151)=WX at *
   have hwX:Nxt w WX:=zaa
   have cB:=zaB hwX HCB.out
   have hgX:Glo WX:=za
   have HW:=zc (zdq (n:=120) (caps:=#[.pointer (some ⟨wB.heap.size,0,none⟩),.pointer (some ⟨wB.heap.size+1,0,none⟩)]) (r:=na) (c:=cc) (a:=2 ^ 18) (F:=mulF ra rb) (w:=WX) (fun args w=>by kernel_rfl) (by have:=HOK.out.1.le; have:=HKA.out; omega) (by have:=HOK.out.2.mle; omega) (by decide)
    (fun i j hi hj => by
     have h:=zjh (x:=(ra.getD i []).map readQ) (R:=rb.map (·.map readQ)) (j:=j) zjW (fun r hr=>by
      obtain ⟨l,_,rfl⟩:=List.mem_map.1 hr
      exact zjW) rb.length
     have:=HOK.out.2.le
     exact ⟨zo h.num (by omega),zo h.den (by omega)⟩)
    (fun i j hi hj wq hq => by
     have hrow:ra[i]?=some (ra[i]'(by rw [HKA.out]; exact hi)):=zg _
     have hmem:=zk hrow
     have e:(ra.getD i []).map readQ=(ra[i]'(by rw [HKA.out]; exact hi)).map readQ:=by rw [za3 hrow]
     show Calls _ _ _ _ (RRet wq (dotQ ((ra.getD i []).map readQ) (rb.map (·.map readQ)) j rb.length))
     rw [e]
     exact mulAt_c (Blk.nxt (h:=hq) (k:=q1)) (Blk.nxt (h:=hq) (k:=q2)) ((HRA1.out.nxt q3).nxt hq) ((HRB.out.nxt q3).nxt hq) (by rw [List.getElem?_map,hrow]; rfl) (by rw [List.length_map,HOK.out.1.cols _ hmem,HSH.out,HKB.out]) (by rw [List.length_map]) HOK.out.2.le
      (fun r hr => by
       obtain ⟨l,hl,rfl⟩:=List.mem_map.1 hr
       rw [List.length_map,HOK.out.2.cols l hl]; exact hj) (by rw [List.length_map]; have:=HOK.out.1.le; omega) (by have:=HOK.out.2.mle; omega) zjW (fun r hr=>by
       obtain ⟨l,_,rfl⟩:=List.mem_map.1 hr
       exact zjW)))
   have HQ:=zc hwX
   clear q1 q2 q3 hxA hxB hxa hxb hxx
   go_wp2_with fail
   refine zf HW.out ?_
   rintro e wZ hz
   have HZ:=zc (show MRet w E (mulF ra rb) na cc e wZ from .inr ⟨HEE.out.symm,WX,HQ.out,hz⟩)
   rcases hz with ⟨_,rfl,_⟩ | ⟨_,rfl,_⟩
   all_goals go_wp2_with fail
   all_goals go_ret2
   all_goals exact HZ.out
  ·have hE := HE'.out
   rw [if_neg (fun h=>h h0),if_pos hsh] at hE
   have HEE:=zc hE
   have hsh':((ma:Int) != (nb:Int))=true:=by simp; omega
   clear hE
   go_wp2_with fail
   go_ret2
   exact .inl ⟨by rw [<- HEE.out]; decide,by rw [<- HEE.out]; rfl,zaa⟩
 ·have HEE := zc (show E = E0 by rw [<- HE'.out, if_pos h0])
  have hb:(E0 != 0)=true:=by simpa using h0
  go_enter Tryz.func39,Tryz.ntmps39
  go_wp2_with fail
  refine zf (hC1.out _ zaa) ?_
  rintro e w1 ⟨rfl,_⟩
  go_wp2_with fail
  refine zf (hC2.out _ zaa) ?_
  rintro e w1 ⟨rfl,_⟩
  go_wp2_with fail
  refine zf (zaH) ?_
  rintro e w1 ⟨rfl,_⟩
  rw [HE0.out]
  go_wp2_with fail
  go_ret2
  exact .inl ⟨by rw [HEE.out]; exact h0,by rw [HEE.out]; rfl,zaa⟩
theorem zeC {w:World} {v:Value} {s:ElS} {i j a:Nat} {row:List Int} {z:Int} (h:EchAt w v s) (hi:s.rows[i]?=some row) (hj:row[j]?=some z) (hd:Wd z a) (hf:Wd s.fac a) (ha:a <= 2 ^ 30):
  Calls Tryz.prog 114 #[v,.int .i64 (i:Int),.int .i64 (j:Int)] w (RRet w (Rat.divInt z s.fac)):=by
 obtain ⟨gr,us,A,c,f,rfl,hR,hl,hz,hf1,ho⟩:=h
 obtain ⟨u,hu⟩:∃ u,us[i]?=some u:=⟨us[i]'(by rw [hl]; exact (zh.1 hi).1),zg _⟩
 obtain ⟨gz,lz,rfl,hbz,_,hzat⟩:=(hz i u row hu hi).at_
 obtain ⟨iv,_,a0,a1,hI⟩:=hzat j z hj
 have huA:us.toArray[i]?=some (.slice (some ⟨gz,0,none⟩) row.length row.length):=by rw [List.getElem?_toArray]; exact hu
 have hi':(i:Int) < (s.rows.length:Int):=by have:=(zh.1 hi).1; omega
 have hj':(j:Int) < (row.length:Int):=by have:=(zh.1 hj).1; omega
 have hM:a+a <= 2 ^ 37:=by omega
 generalize s.rows.length=r at *
 generalize row.length=m at *
 generalize s.piv.length=k at *
 generalize s.fac=F at *
 clear hi hj hl hz hzat hu ha ho
 go_enter Tryz.func114,Tryz.ntmps114
 go_wp2_with fail
 (refine Code.nameW ?_; intro W hW; go_region_held3 (fun w'=>ButO W [w.heap.size+1] w') (exact zab) ((first | (go_at_call 140; refine zf (zcg (by omega)) ?_; rintro e w1 ⟨q1,rfl,_,_⟩))))
 all_goals go_wp2_with fail
 all_goals (simp [bodyPost,results,Tryz.results114,go_sem])
 all_goals exact ⟨_,rfl,za,zaa⟩
theorem EchAt.form {w:World} {v:Value} {s:ElS} (h:EchAt w v s):∃ v0 v1 v2 v3,v = .agg #[v0,v1,v2,v3]:=by
 obtain ⟨gr,us,A,c,f,hv,_⟩:=h
 exact ⟨_,_,_,_,hv⟩
theorem zk8 {w:World} {x0 x1 x2 x3:Value} {s:ElS} {i j g g2 a m:Nat} {row:List Int} {z:Int} (hb:Blk w g 140 #[x0,x1,x2,x3]) (hc:Blk w g2 3 #[.int .i64 (m:Int)]) (h:EchAt w (.agg #[x0,x1,x2,x3]) s) (hi:s.rows[j]?=some row) (hj:row[m]?=some z) (hd:Wd z a) (hf:Wd s.fac a) (ha:a <= 2 ^ 30):
  Calls Tryz.prog 131 #[.int .i64 (i:Int),.int .i64 (j:Int),.pointer (some ⟨g,0,none⟩),.pointer (some ⟨g2,0,none⟩)] w (RRet w (Rat.divInt z s.fac)):=by
 have HC:=zc (fun (wq:World) (hx:Nxt w wq)=>zeC (h.nxt hx) hi hj hd hf ha)
 clear h hi hj hd hf ha
 go_enter Tryz.func131,Tryz.ntmps131
 go_wp2_with fail
 refine zf (HC.out _ zaa) ?_
 rintro e w5 ⟨s5,rfl,_,_⟩
 go_wp2_with fail
 simp [bodyPost,results,Tryz.results131,go_sem]
 exact ⟨s5,rfl,za,zaa⟩
def zbg (rows:List (List (List UInt8))):List (List Int):=rows.map fun r=>zb8 (r.map readQ)
def whB (s:Nat):Nat:=s+(65 * (s+1)+1)
theorem ze6 {qs:List Rat} {s:Nat} (h2:2 <= s) (h:∀ q ∈ qs,Sz q s) (hl:qs.length <= 65):∀ z ∈ zb8 qs,Wd z (whB s):=by
 intro z hz
 obtain ⟨q,hq,rfl⟩:=List.mem_map.1 hz
 have h1:=zfD h2 h qs.length
 have h2:Wd q.num s:=⟨(h q hq).num⟩
 have h3:Wd (flr (lcmQ qs qs.length) (q.den:Int)) (qs.length * (s+1)+1):=⟨by
  have hd:0 < (q.den:Int):=by have:=q.den_nz; omega
  rw [zeo hd]
  exact zo (zar (Int.natAbs_ediv_le_natAbs _ _)) h1.out⟩
 have h4:Wd (q.num * flr (lcmQ qs qs.length) (q.den:Int)) (s+(qs.length * (s+1)+1)):=za
 exact ⟨zo h4.out (by have:=Nat.mul_le_mul_right (s+1) hl; unfold whB; omega)⟩
theorem zca {qs:List Rat}:(zb8 qs).length=qs.length:=by simp [zb8]
theorem zl8 {w:World} {v:Value} {rows:List (List (List UInt8))} {m s:Nat} (hv:ZMAt w v (zbg rows)) (h0:0 < rows.length) (hr:rows.length < 2 ^ 30) (hm:∀ r ∈ rows,r.length=m) (hm65:m <= 65) (h2:2 <= s) (hs:∀ r ∈ rows,∀ x ∈ r,Sz (readQ x) s) (hbig:elW (whB s) rows.length <= 2 ^ 28):
  Calls Tryz.prog 108 #[v] w (fun e w'=>∃ ev,e = .returned ev/\EchAt w' ev (elGo m (zbg rows) m)/\Nxt w w'):=by
 refine zeD (r:=rows.length) (m:=m) (b:=whB s) hv (by simp [zbg]) h0 hr ?_ (by omega) (by unfold whB; omega) ?_ hbig
 ·intro zs hz
  obtain ⟨r,hr,rfl⟩:=List.mem_map.1 hz
  rw [zca,List.length_map,hm r hr]
 ·intro zs hz z hzz
  obtain ⟨r,hr,rfl⟩:=List.mem_map.1 hz
  exact ze6 h2 (fun q hq=>by
   obtain ⟨x,hx,rfl⟩:=List.mem_map.1 hq
   exact hs r hr x hx) (by rw [List.length_map,hm r hr]; exact hm65) z hzz
theorem zl7 {rows:List (List (List UInt8))} {m s:Nat} (hm:∀ r ∈ rows,r.length=m) (hm65:m <= 65) (h2:2 <= s) (hs:∀ r ∈ rows,∀ x ∈ r,Sz (readQ x) s):SInv rows.length m (whB s) m (elGo m (zbg rows) m):=
 SInv.go (by simp [zbg]) (fun zs hz=>by
  obtain ⟨r,hr,rfl⟩:=List.mem_map.1 hz
  rw [zca,List.length_map,hm r hr]) (by unfold whB; omega) (fun zs hz z hzz=>by
  obtain ⟨r,hr,rfl⟩:=List.mem_map.1 hz
  exact ze6 h2 (fun q hq=>by
   obtain ⟨x,hx,rfl⟩:=List.mem_map.1 hq
   exact hs r hr x hx) (by rw [List.length_map,hm r hr]; exact hm65) z hzz) m (zv _)
@[go_sem] theorem field_piv {A B C:Option Addr} {a a' b b' c c':Nat} {p:Bool} (w:World):(Instr.field 140 (.agg #[.slice A a a',.slice B b b',.bool p,.slice C c c']) 1).run Tryz.prog w = .ok (.slice B b b') w:=by kernel_rfl
def rankZ (rows:List (List (List UInt8))):Nat:=(elGo (rows.headD []).length (zbg rows) (rows.headD []).length).piv.length
theorem Rank_c {w:World} {A:Option Addr} {n c:Nat} {rows:List (List (List UInt8))} (hm:MAt w A rows) (hk:rows.length=n) (hn:n < 2 ^ 40) (hl:∀ r ∈ rows,∀ x ∈ r,x.length < 2 ^ 40) {s:Nat} (h2:2 <= s) (hs:∀ r ∈ rows,∀ x ∈ r,Sz (readQ x) s) (hsm:matE rows=0 -> elW (whB s) n <= 2 ^ 28):
  Calls Tryz.prog 38 #[.slice A n c] w (fun e w'=>e = .returned (.tuple #[.int .i64 (if matE rows=0 then (rankZ rows:Int) else 0),.int .i64 (matE rows)])/\Nxt w w'):=by
 obtain ⟨E,hE⟩:∃ E,matE rows=E:=⟨_,rfl⟩
 have hC:=zc (fun (wq:World) (hx:Nxt w wq)=>zbT (c:=c) (hm.nxt hx) hk hn hl)
 rw [hE] at hC hsm ⊢
 by_cases h0:E=0
 ·subst h0
  have hok:=zfz hE
  have hW:=zc (fun (wq:World) (hx:Nxt w wq)=>zgH (c:=c) (hm.nxt hx) hk hn (fun r hr=>by have:=hok.cols r hr; have:=hok.mle; omega) hl hok.ok)
  have hL:=zc (fun (wq:World) (v:Value) (hv:ZMAt wq v (zbg rows))=>zl8 hv hok.pos (by have:=hok.le; omega) hok.cols (by have:=hok.mle; omega) h2 hs (by rw [hk]; exact hsm rfl))
  have HRK:=zc (show (elGo (rows.headD []).length (zbg rows) (rows.headD []).length).piv.length=rankZ rows from rfl)
  rw [if_pos rfl]
  clear hm hk hl hsm hE hok
  go_enter Tryz.func38,Tryz.ntmps38
  go_wp2_with fail
  refine zf (hC.out _ zaa) ?_
  rintro e w1 ⟨rfl,_⟩
  go_wp2_with fail
  refine zf (hW.out _ zaa) ?_
  rintro e w1 ⟨rfl,hz,_⟩
  go_wp2_with fail
  refine zf (hL.out _ _ hz) ?_
  rintro e w5 ⟨ev,rfl,⟨gr,us,AA,cc,f,rfl,_,_,_,_,_⟩,_⟩
  rw [HRK.out]
  go_wp2_with fail
  go_ret2
  exact ⟨rfl,zaa⟩
 ·have hb : (E != 0) = true := by simpa using h0
  rw [if_neg h0]
  clear hm hk hl hsm hE
  go_enter Tryz.func38,Tryz.ntmps38
  go_wp2_with fail
  refine zf (hC.out _ zaa) ?_
  rintro e w1 ⟨rfl,_⟩
  go_wp2_with fail
  go_ret2
  exact ⟨rfl,zaa⟩
end Go.Proofs.YtombhkpniddceaaGreatDoor
