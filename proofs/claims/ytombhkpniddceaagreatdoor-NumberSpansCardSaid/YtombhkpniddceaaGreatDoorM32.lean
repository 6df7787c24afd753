import Derived.Test.YtombhkpniddceaaGreatDoorM29
import Derived.Test.YtombhkpniddceaaGreatDoorM31
set_option maxHeartbeats 25600000
set_option maxRecDepth 100000
set_option synthInstance.maxSize 20000
set_option linter.all false
namespace Go.Proofs.YtombhkpniddceaaGreatDoor
open Go.RowKit
class OwnT (w:World) (v:Value) (base:outParam Nat) (l:outParam (List (List UInt8))):Prop where
 out:w.ownsRow base 22 1 v l.length (l.map str)
section
variable {w w' W X a:World} {v:Value} {base m:Nat} {l:List (List UInt8)} {o:Obj}
theorem OwnT.lt (h:OwnT w v base l):∀ k,v.ownBlock=some k -> base <= k/\k < w.heap.size:=h.out.lt
theorem OwnT.of_block (h:OwnT w v base l) (e:∀ k,k < w.heap.size -> w'.heap[k]?=w.heap[k]?):OwnT w' v base l:=by
 obtain ⟨h1,h2 | ⟨g,cap,cur,hv,hb,hh,hr⟩⟩:=h.out
 ·exact ⟨h1,Or.inl h2⟩
 ·refine ⟨h1, Or.inr ⟨g, cap, cur, hv, hb, ?_, hr⟩⟩
  have:=h.lt g (by rw [hv]; rfl)
  rw [e g this.2]; exact hh
instance OwnT.was [h:Was W X] [k:OwnT X v base l]:OwnT W v base l:=by rw [h.out]; exact k
instance OwnT.nxt [h:Nxt a w'] [k:OwnT a v base l]:OwnT w' v base l:=k.of_block fun g hg=>h.out.block g hg
instance OwnT.drewN [k:OwnT X v base l]:OwnT (X.drewN m) v base l:=k.of_block fun _ _=>rfl
instance OwnT.drew [k:OwnT X v base l]:OwnT X.drew v base l:=k.of_block fun _ _=>rfl
instance OwnT.alloc [k:OwnT X v base l]:OwnT (X.alloc o) v base l:=k.of_block fun g hg=>((Below.refl X.heap.size X).alloc (zv _) o).block g hg
theorem OwnT.grown {w0:World} [h:Ext w0 w] (k:OwnT w v base l) (hb:w0.heap.size <= base) (hg:w.grownBy w' v.ownBlock):Nxt w0 w':=
 ⟨⟨hg.os.trans h.out.os, hg.tape.trans h.out.tape, hg.output.trans h.out.output, zo h.out.size hg.size, fun g hlt =>
  (hg.block g (Nat.lt_of_lt_of_le hlt h.out.size) (fun e=>by have:=(k.lt g e.symm).1; omega)).trans (h.out.block g hlt)⟩⟩
end
theorem zfe {P:Program} {ops:Array Oper} {o:Oper} {a:Act} {w:World} {K:Act -> World -> Prop} {Q:Exit -> Act -> World -> Prop} {E:Prop} (hg:o.guard=none) (h:Oper.wp P o a w K Q):if Region.wanted o (yielded ops a.tmps)=true then Oper.wp P o a w K Q else E:=by
 have hw:Region.wanted o (yielded ops a.tmps)=true:=by simp [Region.wanted,hg]
 rw [if_pos hw]; exact h
theorem zlt {w:World} {g:Nat} {t:TypeId} {x:Value} [h:Blk w g t #[x]]:∀ (j:Nat) (u:Value),[x][j]?=some u -> w.cell? (Addr.add ⟨g,0,none⟩ j)=some u:=by
 intro j u hu
 cases j with
 | zero=>
  obtain rfl:x=u:=by simpa using hu
  exact (Blk.cell (k:=h) (i:=0)).trans rfl
 | succ j=>simp at hu
def eqM (rows:List (List (List UInt8))) (b:List (List UInt8)):List (List (List UInt8)):=(List.range rows.length).map fun i=>rows.getD i [] ++ [b.getD i []]
structure QInv (w wr:World) (gq n i:Nat) (eqs:List (List (List UInt8))) (us:List Value):Prop where
 len:us.length=n
 blk:Blk wr gq 59 us.toArray
 done:∀ (j:Nat) (u:Value) (r:List (List UInt8)),j < i -> us[j]?=some u -> eqs[j]?=some r -> RowT wr u r
 nxt:Nxt w wr
theorem QInv.step {w wr w6:World} {gq n i:Nat} {eqs:List (List (List UInt8))} {us:List Value} {v:Value} {r:List (List UInt8)} (h:QInv w wr gq n i eqs us) (hi:i < n) (hx:Nxt wr w6) (hg:w.heap.size <= gq) (hr:eqs[i]?=some r) (hv:RowT w6 v r):
  QInv w (w6.setCell ⟨gq,i,none⟩ v) gq n (i+1) eqs (us.set i v):=by
 have hb6:Blk w6 gq 59 us.toArray:=Blk.nxt (h:=hx) (k:=h.blk)
 have hn6:Nxt w w6:=⟨h.nxt.out.trans (hx.out.mono h.nxt.out.size)⟩
 have hil:i < us.length:=by rw [h.len]; exact hi
 refine ⟨by rw [List.length_set]; exact h.len,zaR hb6,fun j u r' hj hu hr'=>?_,⟨hn6.out.setCell hg _⟩⟩
 refine RowT.set_ ?_ hb6 (by decide)
 rw [List.getElem?_set] at hu
 by_cases e:i=j
 ·subst e
  rw [if_pos rfl,if_pos hil] at hu
  obtain rfl:=zl hu
  rw [hr] at hr'
  obtain rfl:=zl hr'
  exact hv
 ·rw [if_neg e] at hu
  exact (h.done j u r' (by omega) hu hr').nxt hx
theorem QInv.mat {w wr:World} {gq n:Nat} {eqs:List (List (List UInt8))} {us:List Value} (h:QInv w wr gq n n eqs us) (he:eqs.length=n):MAt wr (some ⟨gq,0,none⟩) eqs:=fun i r hr=>by
 have hi:i < n:=by rw [<- he]; exact (zh.1 hr).1
 have hu:us[i]?=some (us[i]'(by rw [h.len]; exact hi)):=zg _
 have ht:=h.done i _ r hi hu hr
 have ht2:=ht
 obtain ⟨g,cap,cs,hv,hb,hc⟩:=ht
 rw [hv] at ht2
 refine ⟨⟨gq,0,none⟩,some ⟨g,0,none⟩,r.length,cap,rfl,?_,rfl,ht2.sat.2⟩
 have e:(⟨gq,0,none⟩:Addr).add i=⟨gq,i,none⟩:=by unfold Addr.add; split <;> simp_all
 rw [e,<- hv]
 exact (Blk.cell (k:=h.blk) (i:=i)).trans (by rw [List.getElem?_toArray]; exact hu)
theorem zkF {rows:List (List (List UInt8))} {b:List (List UInt8)}:(eqM rows b).length=rows.length:=by simp [eqM]
theorem zhd {rows:List (List (List UInt8))} {b:List (List UInt8)} (hb:b.length=rows.length) {r:List (List UInt8)} (h:r ∈ eqM rows b):∃ row x,row ∈ rows/\x ∈ b/\r=row ++ [x]:=by
 unfold eqM at h
 obtain ⟨i,hi,rfl⟩:=List.mem_map.1 h
 have hi':i < rows.length:=by simpa using hi
 have h1:rows[i]?=some (rows[i]'hi'):=zg _
 have h2:b[i]?=some (b[i]'(by omega)):=zg _
 exact ⟨_,_,zk h1,zk h2,by rw [za3 h1,za3 h2]⟩
def solS (rows:List (List (List UInt8))) (b:List (List UInt8)):ElS:=elGo ((rows.headD []).length+1) (zbg (eqM rows b)) ((rows.headD []).length+1)
def solOk (rows:List (List (List UInt8))) (b:List (List UInt8)):Bool:=(solS rows b).piv.length == (rows.headD []).length && (solS rows b).piv.getD ((rows.headD []).length - 1) 0 == (((rows.headD []).length - 1:Nat):Int)
def solE (rows:List (List (List UInt8))) (b:List (List UInt8)):Int:=if or2 (matE rows) (zay (b.map readE)) ≠ 0 then or2 (matE rows) (zay (b.map readE)) else if b.length ≠ rows.length then 2 else if solOk rows b then 0 else 14
def solF (rows:List (List (List UInt8))) (b:List (List UInt8)) (_ j:Nat):Rat:=Rat.divInt (((solS rows b).rows.getD j []).getD (rows.headD []).length 0) (solS rows b).fac
def zmB (w:World) (E:Int) (F:Nat -> Nat -> Rat) (m:Nat) (e:Ending) (w':World):Prop:=
 (E ≠ 0/\e = .returned (.tuple #[.slice none 0 0,.int .i64 E])/\Nxt w w') ∨
 (E=0/\(∃ i j,i < 1/\j < m/\¬ Fits (F i j))/\e = .returned (.tuple #[.slice none 0 0,.int .i64 4])/\Nxt w w') ∨
 (E=0/\(∀ i j,i < 1 -> j < m -> Fits (F i j))/\(∃ v,e = .returned (.tuple #[v,.int .i64 0])/\TAt w' v (trow F m 0))/\Nxt w w')
theorem Solve_c {w:World} [hg:Glo w] {A B:Option Addr} {n c k d:Nat} {rows:List (List (List UInt8))} {b:List (List UInt8)} (hm:MAt w A rows) (hkn:rows.length=n) (hn:n < 2 ^ 40) (hl:∀ r ∈ rows,∀ x ∈ r,x.length < 2 ^ 40)
  (hb:SAt w B b) (hkb:b.length=k) (hk40:k < 2 ^ 40) (hlb:∀ x ∈ b,x.length < 2 ^ 40) {s:Nat} (h2:2 <= s) (hs:∀ r ∈ rows,∀ x ∈ r,Sz (readQ x) s) (hsb:∀ x ∈ b,Sz (readQ x) s) (hsm:matE rows=0 -> elW (whB s) n <= 2 ^ 18):
  Calls Tryz.prog 44 #[.slice A n c,.slice B k d] w (zmB w (solE rows b) (solF rows b) (rows.headD []).length):=by
 obtain ⟨E0,hE0⟩:∃ E,or2 (matE rows) (zay (b.map readE))=E:=⟨_,rfl⟩
 obtain ⟨E,hE⟩:∃ E,solE rows b=E:=⟨_,rfl⟩
 have hE':(if E0 ≠ 0 then E0 else if k ≠ n then 2 else if solOk rows b then 0 else 14)=E:=by rw [<- hE,<- hE0,<- hkb,<- hkn]; rfl
 have hC1:=zc (fun (wq:World) (hx:Nxt w wq)=>zbT (c:=c) (hm.nxt hx) hkn hn hl)
 have hC2:=zc (fun (wr:World) (hx:Nxt w wr)=>zfQ (n:=104) (caps:=#[]) (w:=wr) (A:=B) (c:=d) (k:=k) (vs:=b.map str) (E:=b.map readE) (fun args w=>by kernel_rfl) (hb.nxt hx).vat (by rw [List.length_map]; exact hkb) (by rw [List.length_map]; exact hkb) hk40 (by
  intro i v x hv hxx wq _
  obtain ⟨y,hy,rfl⟩:∃ y,b[i]?=some y/\str y=v:=by simpa using hv
  have:x=readE y:=by rw [List.getElem?_map,hy] at hxx; simpa using hxx.symm
  subst this
  exact zmp (hlb y (zk hy))))
 have HM:=zc hm; have HKN:=zc hkn; have HL:=zc hl; have HB:=zc hb; have HKB:=zc hkb; have HLB:=zc hlb; have HSM:=zc hsm; have HS2:=zc h2; have HSR:=zc hs; have HSB:=zc hsb; have HE0:=zc hE0; have HE':=zc hE'
 rw [hE]
 obtain ⟨m,hmm⟩:∃ m,(rows.headD []).length=m:=⟨_,rfl⟩
 rw [hmm]
 have HMM:=zc hmm
 clear hm hkn hl hb hkb hlb hsm hE hE0 hE' hmm h2 hs hsb
 by_cases h0:E0=0
 ·have hz := zeT (HE0.out.trans h0)
  have hok:MOk rows m:=by have:=zfz hz.1; rw [HMM.out] at this; exact this
  have hbok:=zcr hz.2
  have hE00:=zc (HE0.out.trans h0)
  obtain ⟨ada,Ba,ka,cca,rfl,hca,hla0,_⟩:=HM.out 0 _ (zeW hok.pos)
  rw [HMM.out] at hla0
  subst hla0
  have hca0:w.cell? ada=some (.slice Ba m cca):=by have h:=hca; rw [show ada.add 0=ada by unfold Addr.add; simp] at h; exact h
  have hn12:n <= 64:=by rw [<- HKN.out]; exact hok.le
  have HBIG:=zc (HSM.out hz.1)
  have hpn:0 < n:=by rw [<- HKN.out]; exact hok.pos
  have hpn':(0:Int) < (n:Int):=by omega
  have HOK:=zc hok; have HBOK:=zc hbok; have HCA:=zc hca0; have HN12:=zc hn12
  clear hz hok hbok hca hca0 hn12 hpn
  by_cases hkn:k=n
  ·have hE := HE'.out
   rw [if_neg (fun h=>h h0),if_neg (fun h=>h hkn)] at hE
   have HEE:=zc hE
   have hsh:((k:Int) != (n:Int))=false:=by simp; omega
   have HKKN:=zc hkn
   have hmk:∀ w,(Instr.makeSlice 49 (.int .i64 (n:Int)) (.int .i64 (n:Int))).run Tryz.prog w = .ok (.slice (some ⟨w.heap.size,0,none⟩) n n) (w.alloc (.cells (zrow n) 59)):=zgA n (by have:=HN12.out; omega)
   clear hE hkn
   go_enter Tryz.func44,Tryz.ntmps44
   go_wp2_with fail
   refine zf (hC1.out _ zaa) ?_
   rintro e w1 ⟨rfl,_⟩
   go_wp2_with fail
   refine zf (hC2.out _ zaa) ?_
   rintro e w1 ⟨rfl,_⟩
   go_wp2_with fail
   refine zf (zaH) ?_
   rintro e w1 ⟨rfl,_⟩
   rw [hE00.out]
   have hxx:Nxt w w1:=zaa
   go_upto_region 7 with fail
   have q1:Blk (w1.alloc (.cells (zrow n) 59)) w1.heap.size 59 (zrow n):=Blk.new
   have q2:Nxt w (w1.alloc (.cells (zrow n) 59)):=zaa
   have hgw:w.heap.size <= w1.heap.size:=hxx.out.size
   generalize w1.alloc (.cells (zrow n) 59)=WQ at *
   obtain ⟨gq,hgq⟩:∃ g,w1.heap.size=g:=⟨_,rfl⟩
   rw [hgq] at q1 hgw
   (try rw [hgq])
   have HGW:=zc hgw; have Q1:=zc q1; have Q2:=zc q2
   clear q1 q2 hgw hxx hmk hgq
   go_wp2_with fail
   go_loopg [33] n (fun gk s33 wr=>∃ (i:Nat) (us:List Value),i <= n/\gk=n - i/\s33 = .int .i64 (i:Int)/\QInv w wr gq n i (eqM rows b) us)
   case atStart=>exact ⟨0,List.replicate n (.slice none 0 0),Nat.zero_le _,rfl,rfl,⟨by simp,Q1.out,fun _ _ _ h=>absurd h (by omega),Q2.out⟩⟩
   case round=>
    obtain ⟨i,us,hi,rfl,rfl,hQ⟩:=hrel
    have HQ:=zc hQ
    have hxr:Nxt w wr:=hQ.nxt
    have hbq:Blk wr gq 59 us.toArray:=hQ.blk
    clear hQ
    by_cases hin:i < n
    ·have hlt : decide ((i : Int) < (n : Int)) = true := by simp; omega
     have hlt':(i:Int) < (n:Int):=by omega
     have hik:(i:Int) < (k:Int):=by have:=HKKN.out; omega
     have hadd:IntKind.i64.wrap ((i:Int)+1)=((i+1:Nat):Int):=by have:=HN12.out; rw [zx]; omega
     have hrow:rows[i]?=some (rows[i]'(by rw [HKN.out]; exact hin)):=zg _
     obtain ⟨row,hrw⟩:∃ row,rows[i]'(by rw [HKN.out]; exact hin)=row:=⟨_,rfl⟩
     rw [hrw] at hrow
     obtain ⟨adr,Br,kr,cr,hA,hcr,hlr,hsr⟩:=HM.out i row hrow
     obtain rfl:ada=adr:=zl hA
     have hrm:=HOK.out.cols row (zk hrow)
     obtain rfl:m=kr:=by rw [<- hrm,hlr]
     obtain ⟨x,hx⟩:∃ x,b[i]?=some x:=⟨b[i]'(by rw [HKB.out,HKKN.out]; exact hin),zg _⟩
     obtain ⟨adb,rfl,hcb⟩:=HB.out i x hx
     have c1:wr.cell? (ada.add i)=some (.slice Br m cr):=zaB hxr hcr
     have c2:wr.cell? (adb.add i)=some (str x):=zaB hxr hcb
     have hCL:=zc (show ∀ (wq:World),Nxt wr wq -> Calls Tryz.prog 130 #[.slice Br m cr] wq (fun e w'=>∃ v,e = .returned v/\OwnT w' v wr.heap.size row/\Nxt wq w') from fun wq hq=>by
      refine zf (znD (c:=cr) ((hsr.nxt hxr).nxt hq) hrm HOK.out.mpos (by have:=HOK.out.mle; omega)) ?_
      rintro e w' ⟨v,rfl,ho,hx⟩
      refine ⟨v,rfl,⟨?_⟩,hx⟩
      rw [hrm]
      obtain ⟨h1,h2 | ⟨g,cap,cur,hv,hb,hr⟩⟩:=ho
      ·exact ⟨h1,.inl h2⟩
      ·exact ⟨h1,.inr ⟨g,cap,cur,hv,zo hq.out.size hb,hr⟩⟩)
     have heq:(eqM rows b)[i]?=some (row ++ [x]):=by
      unfold eqM
      rw [List.getElem?_map,List.getElem?_range (by rw [HKN.out]; exact hin)]
      show some (rows.getD i [] ++ [b.getD i []])=_
      rw [za3 hrow,za3 hx]
     obtain ⟨i0,hi0,hz0,hz1,hz2⟩:=info_parts zfa
     have HI0:=zc hi0; have HZ0:=zc hz0; have HZ1:=zc hz1; have HZ2:=zc hz2
     have hil:i < us.length:=by rw [HQ.out.len]; exact hin
     have HIL:=zc hil; have HEQ:=zc heq; have HIN:=zc hin; have HRM:=zc hrm; have HX:=zc hx; have HXR:=zc hxr; have HBQ:=zc hbq
     clear hrow hrw hA hcr hlr hsr hrm hx hcb heq hi0 hz0 hz1 hz2 hil hin hi hbq
     go_upto_region 10 with fail
     go_region_law ((first
      | (refine zfe rfl ?_; go_simp; go_at_call 130; refine zf (hCL.out _ zaa) ?_; rintro e w5 ⟨v5,rfl,hown5,hx5⟩; have hxx5:Nxt wr w5:=zaa; have c5:=zaB hxx5 c2; simp only [])
      | (refine zfe rfl (wp_append_own (P:=Tryz.prog) _ (.tmp 41) (.tmp 46) 59 rfl wr.heap.size 22 i0 (str []) 1 16 Tryz.underlying59 HI0.out HZ0.out HZ1.out HZ2.out rfl (by decide) v5 _ _ rfl OwnT.out _ 1 1 [str x] rfl rfl zlt (fun u hu=>by rw [List.mem_singleton.1 hu]; rfl) (by have:=HRM.out; have:=HOK.out.mle; unfold maxLen; omega) (by have:=HRM.out; have:=HOK.out.mle; omega) (za:Ext wr _).out.size ?_); intro v6 w6 ho6 hg6 _; have hx6:Nxt wr w6:=OwnT.grown (v:=v5) za (zv _) hg6; obtain ⟨g6,cap6,cs6,rfl,hb6,hcs6⟩:=RowT.of_own (l:=row ++ [x]) (by simpa using ho6) (by simp); have hq6:Blk w6 gq 59 us.toArray:=Blk.nxt (h:=hx6) (k:=HBQ.out); have cq6:w6.cell? ⟨gq,i,none⟩=some (us[i]'HIL.out):=(Blk.cell (k:=hq6) (i:=i)).trans (by simp); have fq6:w6.frozen? ⟨gq,i,none⟩=false:=Blk.frozen (k:=hq6); have HR6:=zc (show RowT w6 (.slice (some ⟨g6,0,none⟩) (row.length+1) cap6) (row ++ [x]) from ⟨g6,cap6,cs6,by rw [List.length_append,List.length_singleton],hb6,hcs6⟩))))
     all_goals go_wp2_with fail
     all_goals go_roundg (n - (i+1))
     all_goals first
      | exact ⟨i+1,_,HIN.out,rfl,rfl,HQ.out.step HIN.out hx6 HGW.out HEQ.out HR6.out⟩
      | (have:=HIN.out; omega)
    ·have hlt : decide ((i : Int) < (n : Int)) = false := decide_eq_false (by omega)
     have hlt':¬ (i:Int) < (n:Int):=by omega
     obtain rfl:i=n:=by omega
     have c1:=zaB hxr HCA.out
     go_upto_region 13 with fail
     have p1:Nxt wr (wr.alloc (.cells #[.int .i64 (m:Int)] 3)):=zaa
     have p2:Blk (wr.alloc (.cells #[.int .i64 (m:Int)] 3)) wr.heap.size 3 #[.int .i64 (m:Int)]:=Blk.new
     obtain ⟨g10,hg10⟩:∃ g,wr.heap.size=g:=⟨_,rfl⟩
     rw [hg10] at p2
     (try rw [hg10])
     generalize wr.alloc (.cells #[.int .i64 (m:Int)] 3)=WC at *
     have hel:(eqM rows b).length=i:=by rw [zkF,HKN.out]
     have hbl:b.length=rows.length:=by rw [HKB.out,HKKN.out,HKN.out]
     have hme:MAt WC (some ⟨gq,0,none⟩) (eqM rows b):=(HQ.out.mat hel).nxt p1
     have hcol:∀ r ∈ eqM rows b,r.length=m+1:=fun r hr=>by
      obtain ⟨row,x,h1,h2,rfl⟩:=zhd hbl hr
      rw [List.length_append,List.length_singleton,HOK.out.cols row h1]
     have hle:∀ r ∈ eqM rows b,∀ x ∈ r,x.length < 2 ^ 40:=fun r hr x hx=>by
      obtain ⟨row,y,h1,h2,rfl⟩:=zhd hbl hr
      rcases List.mem_append.1 hx with h | h
      ·exact HL.out row h1 x h
      ·rw [List.mem_singleton.1 h]; exact HLB.out y h2
     have hre:∀ r ∈ eqM rows b,∀ x ∈ r,readE x=0:=fun r hr x hx=>by
      obtain ⟨row,y,h1,h2,rfl⟩:=zhd hbl hr
      rcases List.mem_append.1 hx with h | h
      ·exact HOK.out.ok row h1 x h
      ·rw [List.mem_singleton.1 h]; exact HBOK.out _ (List.mem_map.2 ⟨y,h2,rfl⟩)
     have hse:∀ r ∈ eqM rows b,∀ x ∈ r,Sz (readQ x) s:=fun r hr x hx=>by
      obtain ⟨row,y,h1,h2,rfl⟩:=zhd hbl hr
      rcases List.mem_append.1 hx with h | h
      ·exact HSR.out row h1 x h
      ·rw [List.mem_singleton.1 h]; exact HSB.out y h2
     have HW:=zc (zgH (c:=i) hme hel (by have:=HN12.out; omega) (fun r hr=>by rw [hcol r hr]; have:=HOK.out.mle; omega) hle hre)
     have HLM:=zc (fun (wq:World) (v:Value) (hv:ZMAt wq v (zbg (eqM rows b)))=>zl8 (m:=m+1) hv (by rw [hel,<- HKN.out]; exact HOK.out.pos) (by rw [hel]; have:=HN12.out; omega) hcol (by have:=HOK.out.mle; omega) HS2.out hse (by rw [hel]; exact zo HBIG.out (by decide)))
     have HINV:=zc (zl7 hcol (by have:=HOK.out.mle; omega) HS2.out hse)
     have hsolS:elGo (m+1) (zbg (eqM rows b)) (m+1)=solS rows b:=by unfold solS; rw [HMM.out]
     rw [hsolS] at HLM HINV
     have HP2:=zc p2; have HP1:=zc (show Nxt w WC from zaa); have HEL:=zc hel
     clear hel hbl hme hcol hle hre hse hsolS p1 p2 hxr hbq c1 hi hin
     go_wp2_with fail
     refine zf HW.out ?_
     rintro e wM ⟨rfl,hz,hxM⟩
     have HZ:=zc hz
     clear hz
     go_wp2_with fail
     refine zf (HLM.out _ _ HZ.out) ?_
     rintro e wE ⟨ev,rfl,hec,hxE⟩
     have HEC:=zc hec
     obtain ⟨gr,us2,AA,cc,f,rfl,_,_,_,_,ho⟩:=hec
     have HOW:=zc ho
     clear ho
     obtain ⟨S,hS⟩:∃ S,solS rows b=S:=⟨_,rfl⟩
     rw [hS] at HEC HOW HINV ⊢
     have HSS:=zc hS
     clear hS
     obtain ⟨rl,hrl⟩:∃ rl,S.rows.length=rl:=⟨_,rfl⟩
     obtain ⟨pl,hpl⟩:∃ pl,S.piv.length=pl:=⟨_,rfl⟩
     rw [hpl] at HOW
     rw [hrl,hpl]
     go_upto_region 14 with fail
     have e1:Nxt wE (wE.alloc (.cells #[.slice (some ⟨gr,0,none⟩) rl rl,.slice AA pl cc,.bool f.b,.slice f.m.A f.m.k f.m.c] 140)):=zaa
     have e2:Blk (wE.alloc (.cells #[.slice (some ⟨gr,0,none⟩) rl rl,.slice AA pl cc,.bool f.b,.slice f.m.A f.m.k f.m.c] 140)) wE.heap.size 140 #[.slice (some ⟨gr,0,none⟩) rl rl,.slice AA pl cc,.bool f.b,.slice f.m.A f.m.k f.m.c]:=Blk.new
     obtain ⟨g11,hg11⟩:∃ g,wE.heap.size=g:=⟨_,rfl⟩
     rw [hg11] at e2
     (try rw [hg11])
     generalize wE.alloc (.cells #[.slice (some ⟨gr,0,none⟩) rl rl,.slice AA pl cc,.bool f.b,.slice f.m.A f.m.k f.m.c] 140)=WF at *
     have hc10:Blk WF g10 3 #[.int .i64 (m:Int)]:=by
      have h:=HP2.out
      exact za
     have hown:=HOW.out.nxt e1
     have hecF:=HEC.out.nxt e1
     rw [hrl,hpl] at hecF
     have hwF:Nxt w WF:=by
      have h:=HP1.out
      exact zaa
     have hSOK:solOk rows b=(pl == m && S.piv.getD (m - 1) 0 == ((m - 1:Nat):Int)):=by unfold solOk; rw [HSS.out,HMM.out,hpl]
     have HOKK:=zc hSOK; have HWF:=zc hwF; have HECF:=zc hecF; have HE2:=zc e2; have HC10:=zc hc10; have HPL:=zc hpl; have HRL:=zc hrl
     clear hSOK hwF hecF hxM hxE e1
     by_cases hpm:pl=m
     ·obtain ⟨q, hq⟩ : ∃ q, q + 1 = m := ⟨m - 1, by have := HOK.out.mpos; omega⟩
      have hqm:m - 1=q:=by omega
      have hw1:IntKind.i64.wrap ((m:Int) - 1)=(q:Int):=by have:=HOK.out.mle; rw [zx]; omega
      have hqp:(q:Int) < (pl:Int):=by omega
      have hne:((pl:Int) != (m:Int))=false:=by simp; omega
      have hpm':(pl:Int)=(m:Int):=by omega
      obtain ⟨x,hx⟩:∃ x,S.piv[q]?=some x:=⟨S.piv[q]'(by omega),zg _⟩
      obtain ⟨gp,rfl,hcell⟩:=hown.at_.2 q x hx
      have HX:=zc hx; have HQM:=zc hqm; have HPM:=zc hpm; have HQ1:=zc hq
      clear hx hqm hq hown hpl hrl hpm
      by_cases hxq:x=(q:Int)
      ·have hxb : (x != (q : Int)) = false := by simpa using hxq
       have hE0:E=0:=by
        rw [<- HEE.out,HOKK.out,HQM.out,za3 HX.out,HPM.out]
        simp [hxq]
       have HE0Z:=zc hE0
       clear hE0
       have HWR:=zc (fun (wq:World) (hq:Nxt WF wq)=>by
        have hgq:Glo wq:=by
         have h1:=HWF.out
         have h2:Glo WF:=za
         exact za
        exact zdq (n:=131) (caps:=#[.pointer (some ⟨g11,0,none⟩),.pointer (some ⟨g10,0,none⟩)]) (r:=1) (c:=m) (a:=2 ^ 20) (F:=solF rows b) (w:=wq) (fun args w=>by kernel_rfl) (by omega) (by have:=HOK.out.mle; omega) (zv _)
         (fun i' j hi hj => by
          have hI:=HINV.out
          have hj':j < S.rows.length:=by have h1:=hI.pl; have h2:=hI.rl; have h3:=HPL.out; have h4:=HPM.out; omega
          have hrow:=zcc (zss:=S.rows) hj'
          have d1:Wd ((S.rows.getD j []).getD m 0) (elW (whB s) S.piv.length):=zbG (hI.sz _ hrow)
          have d2:=hI.fs
          have d3:=zdU (b:=whB s) (t:=S.piv.length) (u:=i) (by have:=hI.pl; have:=HEL.out; omega)
          have d4:=HBIG.out
          show Sz (Rat.divInt (((solS rows b).rows.getD j []).getD (rows.headD []).length 0) (solS rows b).fac) _
          rw [HSS.out,HMM.out]
          have d5:Sz (Rat.divInt ((S.rows.getD j []).getD m 0) S.fac) (elW (whB s) S.piv.length+elW (whB s) S.piv.length+1):=za
          exact ⟨zo d5.num (by omega),zo d5.den (by omega)⟩)
         (fun i' j hi hj wz hz => by
          have hI:=HINV.out
          have hj':j < S.rows.length:=by have h1:=hI.pl; have h2:=hI.rl; have h3:=HPL.out; have h4:=HPM.out; omega
          have hrow:S.rows[j]?=some (S.rows.getD j []):=by rw [List.getD_eq_getElem?_getD,zg hj']; rfl
          have hlen:=hI.ml _ (zcc (zss:=S.rows) hj')
          have hz':(S.rows.getD j [])[m]?=some ((S.rows.getD j []).getD m 0):=by rw [List.getD_eq_getElem?_getD (i:=m),zg (by omega)]; rfl
          have d1:Wd ((S.rows.getD j []).getD m 0) (elW (whB s) S.piv.length):=zbG (hI.sz _ (zcc (zss:=S.rows) hj'))
          have d3:=zdU (b:=whB s) (t:=S.piv.length) (u:=i) (by have:=hI.pl; have:=HEL.out; omega)
          have d4:=HBIG.out
          show Calls _ _ _ _ (RRet wz (Rat.divInt (((solS rows b).rows.getD j []).getD (rows.headD []).length 0) (solS rows b).fac))
          rw [HSS.out,HMM.out]
          exact zk8 (a:=elW (whB s) S.piv.length) (Blk.nxt (h:=hz) (k:=Blk.nxt (h:=hq) (k:=HE2.out))) (Blk.nxt (h:=hz) (k:=Blk.nxt (h:=hq) (k:=HC10.out))) ((HECF.out.nxt hq).nxt hz) hrow hz' d1 hI.fs (by omega)))
       go_quiet (fail)
       go_wp2_with fail
       refine zf (HWR.out _ zaa) ?_
       rintro e wZ hz
       have HNW:=zc (show Nxt w (WF.drewN nq) from by
        have h1:=HWF.out
        exact zaa)
       rcases hz with ⟨hfit,rfl,usz,hI⟩ | ⟨hbad,rfl,hxz⟩
       ·obtain ⟨u0, hu0⟩ : ∃ u, usz[0]? = some u := ⟨usz[0]'(by rw [hI.len]; omega), zg _⟩
        have ht:=hI.done 0 u0 (by omega) hu0
        have hc0:wZ.cell? ⟨(WF.drewN nq).heap.size,0,none⟩=some u0:=(Blk.cell (k:=hI.blk) (i:=0)).trans (by rw [List.getElem?_toArray]; exact hu0)
        have hc0':wZ.cell? ⟨WF.heap.size,0,none⟩=some u0:=hc0
        have HT:=zc ht; have HFIT:=zc hfit
        obtain ⟨h,hv,_⟩:=ht
        have HFIN:=zc (show zmB w E (solF rows b) m (.returned (.tuple #[u0,.int .i64 0])) wZ from .inr (.inr ⟨HE0Z.out,HFIT.out,⟨u0,rfl,HT.out⟩,⟨HNW.out.out.trans (hI.nxt.out.mono HNW.out.out.size)⟩⟩))
        subst hv
        clear hI hfit
        go_wp2_with fail
        go_ret2
        exact HFIN.out
       ·have HFIN := zc (show zmB w E (solF rows b) m (.returned (.tuple #[.slice none 0 0, .int .i64 4])) wZ from .inr (.inl ⟨HE0Z.out, hbad, rfl, ⟨HNW.out.out.trans (hxz.out.mono HNW.out.out.size)⟩⟩))
        clear hbad hxz
        go_wp2_with fail
        go_ret2
        exact HFIN.out
      ·have hxb : (x != (q : Int)) = true := by simpa using hxq
       have HEE2:=zc (show E=14 by
        rw [<- HEE.out,HOKK.out,HQM.out,za3 HX.out,HPM.out]
        simp [hxq])
       have HNX:=HWF.out
       go_quiet (fail)
       go_wp2_with fail
       go_ret2
       exact .inl ⟨by rw [HEE2.out]; decide,by rw [HEE2.out]; rfl,zaa⟩
     ·have hne : ((pl : Int) != (m : Int)) = true := by simp; omega
      have HEE2:=zc (show E=14 by
       rw [<- HEE.out,HOKK.out]
       simp [hpm])
      have HNX:=HWF.out
      clear hown hpl hrl
      go_quiet (fail)
      go_wp2_with fail
      go_ret2
      exact .inl ⟨by rw [HEE2.out]; decide,by rw [HEE2.out]; rfl,zaa⟩
  ·have hE := HE'.out
   rw [if_neg (fun h=>h h0),if_pos hkn] at hE
   have HEE:=zc hE
   have hsh:((k:Int) != (n:Int))=true:=by simp; omega
   clear hE
   go_enter Tryz.func44,Tryz.ntmps44
   go_wp2_with fail
   refine zf (hC1.out _ zaa) ?_
   rintro e w1 ⟨rfl,_⟩
   go_wp2_with fail
   refine zf (hC2.out _ zaa) ?_
   rintro e w1 ⟨rfl,_⟩
   go_wp2_with fail
   refine zf (zaH) ?_
   rintro e w1 ⟨rfl,_⟩
   rw [hE00.out]
   go_wp2_with fail
   go_ret2
   exact .inl ⟨by rw [<- HEE.out]; decide,by rw [<- HEE.out]; rfl,zaa⟩
 ·have HEE := zc (show E = E0 by rw [<- HE'.out, if_pos h0])
  have hb:(E0 != 0)=true:=by simpa using h0
  go_enter Tryz.func44,Tryz.ntmps44
  go_wp2_with fail
  refine zf (hC1.out _ zaa) ?_
  rintro e w1 ⟨rfl,_⟩
  go_wp2_with fail
  refine zf (hC2.out _ zaa) ?_
  rintro e w1 ⟨rfl,_⟩
  go_wp2_with fail
  refine zf (zaH) ?_
  rintro e w1 ⟨rfl,_⟩
  rw [HE0.out]
  go_wp2_with fail
  go_ret2
  exact .inl ⟨by rw [HEE.out]; exact h0,by rw [HEE.out]; rfl,zaa⟩
structure Dist (base:Nat) (w:World) (i:Nat) (us:List Value):Prop where
 own:∀ (j:Nat) (u:Value),j < i -> us[j]?=some u -> ∃ b,u.ownBlock=some b/\base <= b/\b < w.heap.size
 ne:∀ (j k:Nat) (u v:Value),j < k -> k < i -> us[j]?=some u -> us[k]?=some v -> u.ownBlock ≠ v.ownBlock
theorem Dist.zero {base:Nat} {w:World} {us:List Value}:Dist base w 0 us:=⟨fun _ _ h=>absurd h (by omega),fun _ _ _ _ _ h=>absurd h (by omega)⟩
theorem Dist.step {base:Nat} {w w5:World} {i gb:Nat} {us:List Value} {x y:Value} {p:Addr} (h:Dist base w i us) (hbase:base <= w.heap.size) (hx:x.ownBlock=some gb) (hb:w.heap.size <= gb) (hl:gb < w5.heap.size) (hi:i < us.length) (hn:Nxt w w5):Dist base (w5.setCell p y) (i+1) (us.set i x):=by
 have hs:∀ (j:Nat) (u:Value),j < i+1 -> (us.set i x)[j]?=some u -> (j=i/\u=x) ∨ (j < i/\us[j]?=some u):=by
  intro j u hj hu
  rw [List.getElem?_set] at hu
  by_cases e:i=j
  ·rw [if_pos e, if_pos hi] at hu
   exact .inl ⟨e.symm,(zl hu).symm⟩
  ·rw [if_neg e] at hu
   exact .inr ⟨by omega,hu⟩
 refine ⟨fun j u hj hu=>?_,fun j k u v hjk hk hu hv=>?_⟩
 ·rw [World.size_setCell]
  rcases hs j u hj hu with ⟨_,rfl⟩ | ⟨h1,h2⟩
  ·exact ⟨gb,hx,zo hbase hb,hl⟩
  ·obtain ⟨b, e, hb0, hlt⟩ := h.own j u h1 h2
   exact ⟨b,e,hb0,Nat.lt_of_lt_of_le hlt hn.out.size⟩
 ·rcases hs k v hk hv with ⟨rfl, rfl⟩ | ⟨h1, h2⟩
  ·rcases hs j u (by omega) hu with ⟨e, _⟩ | ⟨h3, h4⟩
   ·omega
   ·obtain ⟨b, e, _, hlt⟩ := h.own j u h3 h4
    rw [e,hx]
    intro h5
    have:=zl h5
    omega
  ·rcases hs j u (by omega) hu with ⟨e, _⟩ | ⟨h3, h4⟩
   ·omega
   ·exact h.ne j k u v hjk h1 h4 h2
theorem zlK {n:FuncId} {caps:Array Value} {A:Option Addr} {c k:Nat} {vs:List Value} {Q:Nat -> Value -> World -> Prop} {w:World} (hrun:∀ (args:Array Value) (w:World),Sem.run Tryz.prog (callFunc n args) w = .ok (.enter n args) w)
  (hv:VAt w A vs) (hk:vs.length=k) (hn:k < 2 ^ 40) (hQ:Kept 136 Q) (hcall:∀ (i:Nat) (v:Value),vs[i]?=some v -> ∀ wr,Nxt w wr -> Calls Tryz.prog n (#[v] ++ caps) wr (fun e w'=>∃ gb m d,e = .returned (.slice (some ⟨gb,0,none⟩) m d)/\wr.heap.size <= gb/\gb < w'.heap.size/\Q i (.slice (some ⟨gb,0,none⟩) m d) w'/\Nxt wr w')):
  Calls Tryz.prog 105 #[.slice A k c,.func (.func n) #[] caps] w (fun e w'=>∃ us:List Value,e = .returned (.slice (some ⟨w.heap.size,0,none⟩) k k)/\Blk w' w.heap.size 136 us.toArray/\us.length=k/\(∀ i u,us[i]?=some u -> Q i u w')/\(∀ (i j:Nat) (u v:Value),i < j -> us[i]?=some u -> us[j]?=some v -> u.ownBlock ≠ v.ownBlock)/\(∀ (i:Nat) (u:Value),us[i]?=some u -> ∃ b,u.ownBlock=some b/\w.heap.size <= b)/\Nxt w w'):=by
 have hmk:∀ w,(Instr.makeSlice 134 (.int .i64 (k:Int)) (.int .i64 (k:Int))).run Tryz.prog w = .ok (.slice (some ⟨w.heap.size,0,none⟩) k k) (w.alloc (.cells (zrow k) 136)):=zcE k hn
 have HV:=zc hv; have HK:=zc hk; have HN:=zc hn; have HC:=zc hcall; have HQ:=zc hQ
 clear hv hk hn hcall hQ
 go_enter Tryz.func105,Tryz.ntmps105
 go_wp2_with fail
 have h0:Blk (w.alloc (.cells (zrow k) 136)) w.heap.size 136 (zrow k):=Blk.new
 have hb0:Nxt w (w.alloc (.cells (zrow k) 136)):=zaa
 generalize w.alloc (.cells (zrow k) 136)=W at *
 have H0:=zc h0; have HB0:=zc hb0
 clear h0 hb0 hmk
 go_loopw [13] (fun s13 wr=>∃ (i:Nat) (us:List Value),s13 = .int .i64 (i:Int)/\i <= k/\us.length=k/\Blk wr w.heap.size 136 us.toArray/\(∀ j u,j < i -> us[j]?=some u -> Q j u wr)/\(∀ (j:Nat) (u:Value),us[j]?=some u -> NW u)/\Dist w.heap.size wr i us/\Nxt w wr) (fun s13 _=>k - (intOf s13).toNat)
 case atStart=>exact ⟨0,List.replicate k (Value.slice none 0 0),rfl,Nat.zero_le _,by simp,H0.out,fun _ _ h=>absurd h (by omega),zgU,Dist.zero,HB0.out⟩
 case round=>
  obtain ⟨i,us,rfl,hi,hl,h1,hok,hnw,hdi,hd⟩:=hrel
  have HO:=zc hok; have HNW:=zc hnw; have HDI:=zc hdi
  clear hok hnw hdi
  by_cases hin:i < k
  ·have hlt : decide ((i : Int) < (k : Int)) = true := by simp; omega
   have hlt':(i:Int) < (k:Int):=by omega
   have hadd:IntKind.i64.wrap ((i:Int)+1)=((i+1:Nat):Int):=by have:=HN.out; rw [zx]; omega
   obtain ⟨v,hv⟩:∃ v,vs[i]?=some v:=⟨vs[i]'(by rw [HK.out]; exact hin),zg _⟩
   obtain ⟨ad,rfl,k1⟩:=HV.out i v hv
   have k3:wr.cell? (ad.add i)=some v:=zaB hd k1
   have hc:=HC.out i v hv wr hd
   have HCI:=zc hc
   have hl0:=hl
   have HL:=zc hl
   clear hv k1 hc hl
   go_wp2_with fail
   refine zf HCI.out ?_
   rintro e w5 ⟨gb,m,d,rfl,hgb,hgl,hq,hx⟩
   have HDN:=zc (HDI.out.step hd.out.size (x := .slice (some ⟨gb,0,none⟩) m d) (gb:=gb) (p:=⟨w.heap.size,i,none⟩) (y := .slice (some ⟨gb,0,none⟩) m d) rfl hgb hgl (by rw [hl0]; exact hin) hx)
   clear hgb hgl
   have h5:Blk w5 w.heap.size 136 us.toArray:=Blk.nxt
   have hfx:w5.frozen? ⟨w.heap.size,i,none⟩=false:=Blk.frozen (k:=h5)
   have hnw:zaj us.toArray i:=⟨fun x e=>(HNW.out i (us[i]'(by rw [HL.out]; exact hin)) (zg _)).out x (by simpa [zg (show i < us.length by rw [HL.out]; exact hin)] using e)⟩
   have hcx:w5.cell? ⟨w.heap.size,i,none⟩=some (us[i]'(by rw [HL.out]; exact hin)):=(Blk.cell (k:=h5) (i:=i)).trans (by simp)
   have hs:=zaR (i:=i) (x := .slice (some ⟨gb,0,none⟩) m d) h5
   have hb:Nxt w (w5.setCell ⟨w.heap.size,i,none⟩ (.slice (some ⟨gb,0,none⟩) m d)):=zaa
   have HS:=zc hs; have HB:=zc hb; have HX:=zc hx; have HQ5:=zc hq; have H5:=zc h5; have HN5:=zc hnw
   clear hs hb h1 hq hx hnw
   go_wp2_with fail
   go_roundw
   case rel=>exact ⟨i+1,_,rfl,hin,by simp [HL.out],HS.out,fun j u hj hu=>by
    rw [List.getElem?_set] at hu
    by_cases hij:i=j
    ·subst hij
     have hlt2:i < us.length:=by rw [HL.out]; exact hin
     simp [hlt2] at hu
     subst hu
     exact HQ.out.set HQ5.out H5.out HN5.out
    ·rw [if_neg hij] at hu
     exact HQ.out.set (HQ.out.nxt (HO.out j u (by omega) hu) HX.out) H5.out HN5.out,fun j u hu=>by
    rw [List.getElem?_set] at hu
    by_cases hij:i=j
    ·subst hij
     have hlt2:i < us.length:=by rw [HL.out]; exact hin
     simp [hlt2] at hu
     subst hu
     infer_instance
    ·rw [if_neg hij] at hu
     exact HNW.out j u hu,HDN.out,HB.out⟩
   case measure=>simp [intOf]; omega
  ·have hlt : decide ((i : Int) < (k : Int)) = false := by simp; omega
   have hlt':¬ (i:Int) < (k:Int):=by omega
   obtain rfl:i=k:=by omega
   have H1:=zc h1; have HD:=zc hd; have HL:=zc hl
   clear h1 hd hl
   go_wp2_with fail
   go_ret
   exact ⟨rfl,us,H1.out,HL.out,fun j u hu=>HO.out j u (by
    rcases Nat.lt_or_ge j us.length with h | h
    ·rw [HL.out] at h; exact h
    ·rw [List.getElem?_eq_none h] at hu; cases hu) hu,fun a b u v hab hu hv=>HDI.out.ne a b u v hab (by
    rcases Nat.lt_or_ge b us.length with h | h
    ·rw [HL.out] at h; exact h
    ·rw [List.getElem?_eq_none h] at hv; cases hv) hu hv,fun a u hu=>(by
    obtain ⟨b,e,h1,_⟩:=HDI.out.own a u (by
     rcases Nat.lt_or_ge a us.length with h | h
     ·rw [HL.out] at h; exact h
     ·rw [List.getElem?_eq_none h] at hu; cases hu) hu
    exact ⟨b,e,h1⟩),HD.out⟩
theorem ZAt.lt {w:World} {gb m d:Nat} {zs:List Int} (h:ZAt w (.slice (some ⟨gb,0,none⟩) m d) zs):gb < w.heap.size:=by
 obtain ⟨g,us,hv,hb,_⟩:=h
 injection hv with h1 _ _
 injection h1 with h1
 injection h1 with h1
 rw [h1]; exact hb.lt
theorem ziJ {A:Option Addr} {c k:Nat} {ws:List (List UInt8)} {w:World}
  (hv:SAt w A ws) (hk:ws.length=k) (hn:k <= 65) (hl:∀ l ∈ ws,l.length < 2 ^ 40) (hok:∀ l ∈ ws,readE l=0):
  Calls Tryz.prog 106 #[.slice A k c] w (fun e w'=>∃ gb m d,e = .returned (.slice (some ⟨gb,0,none⟩) m d)/\w.heap.size <= gb/\gb < w'.heap.size/\ZAt w' (.slice (some ⟨gb,0,none⟩) m d) (zb8 (ws.map readQ))/\Nxt w w'):=by
 have HC:=zc (zfk (c:=c) hv hk (by omega) hl hok)
 obtain ⟨qs,hqs⟩:∃ qs,ws.map readQ=qs:=⟨_,rfl⟩
 have hql:qs.length=k:=by rw [<- hqs]; simpa using hk
 have hsz:∀ q ∈ qs,Sz q 600:=by
  intro q hq
  rw [<- hqs] at hq
  obtain ⟨l,_,rfl⟩:=List.mem_map.1 hq
  infer_instance
 have HSZ:=zc hsz; have dw:=zfD (by omega) hsz k; have HN:=zc hn
 have HZ:=zc (show qs.map (fun q=>q.num * flr (lcmQ qs k) (q.den:Int))=zb8 qs by unfold zb8; rw [hql])
 have HQL:=zc hql
 have HD:=zc (fun (v:Value) (wq:World) (h:RAt wq v qs)=>zdY (b:=600) h hql (by omega) (by omega) hsz)
 rw [hqs] at HC ⊢
 obtain ⟨Z,hZ⟩:∃ Z,zb8 qs=Z:=⟨_,rfl⟩
 rw [hZ] at HZ ⊢
 generalize lcmQ qs k=M at *
 clear hv hk hl hok hql hsz hn hZ
 go_enter Tryz.func106,Tryz.ntmps106
 go_wp2_with fail
 refine zf HC.out ?_
 rintro e wR ⟨rfl,hr,hx⟩
 have HR:=zc hr
 clear hr
 go_wp2_with fail
 refine zf (HD.out _ _ HR.out) ?_
 rintro e w5 ⟨s,rfl,_,_⟩
 have HM:=zc (fun (wq:World) (hxq:Nxt wR wq) (_:Blk wq w5.heap.size 98 #[.bool s.b,s.m.v]) (_:IntIs wq s.v M)=>zhY (n:=192) (caps:=#[.pointer (some ⟨w5.heap.size,0,none⟩)]) (F:=fun q=>q.num * flr M (q.den:Int)) (k:=k) (w:=wq) (fun args w=>by kernel_rfl) (HR.out.nxt hxq) HQL.out (by have:=HN.out; omega) (fun q hq wr u hx2 hu=>by
  have dq:=HSZ.out q hq
  exact zhy (h1:=hu) (a:=k * (600+1)+1) (s:=s) (by have:=HN.out; omega)))
 rw [HZ.out] at HM
 go_wp2_with fail
 refine zf (HM.out _ zaa za za) ?_
 rintro e w9 ⟨rfl,hz,hx9⟩
 have HZ9:=zc hz
 have HSZ5:=zc (show w.heap.size <= w5.heap.size+1 by have:=(show Nxt w w5 from zaa).out.size; omega)
 clear hz
 go_wp2_with fail
 go_ret
 have hz:=HZ9.out
 rw [World.size_alloc] at hz
 exact ⟨_,_,_,rfl,HSZ5.out,hz.lt,hz,zaa⟩
theorem zi5 {w:World} {A:Option Addr} {n c:Nat} {rows:List (List (List UInt8))} (hm:MAt w A rows) (hk:rows.length=n) (hn:n < 2 ^ 40) (hr:∀ r ∈ rows,r.length <= 65) (hl:∀ r ∈ rows,∀ x ∈ r,x.length < 2 ^ 40) (hok:∀ r ∈ rows,∀ x ∈ r,readE x=0):
  Calls Tryz.prog 105 #[.slice A n c,.func (.func 106) #[] #[]] w (fun e w'=>∃ us:List Value,e = .returned (.slice (some ⟨w.heap.size,0,none⟩) n n)/\Blk w' w.heap.size 136 us.toArray/\us.length=n /\
   (∀ (i:Nat) (u:Value) (zs:List Int),us[i]?=some u -> (zbg rows)[i]?=some zs -> ZAt w' u zs)/\(∀ (i j:Nat) (u v:Value),i < j -> us[i]?=some u -> us[j]?=some v -> u.ownBlock ≠ v.ownBlock)/\(∀ (i:Nat) (u:Value),us[i]?=some u -> ∃ b,u.ownBlock=some b/\w.heap.size <= b)/\Nxt w w'):=by
 obtain ⟨vs,hvl,hva,hvr⟩:=hm.vals
 refine zf (zlK (n:=106) (caps:=#[]) (k:=n) (c:=c) (fun args w=>by kernel_rfl) hva (by rw [hvl,hk]) hn (zgI rows) ?_) ?_
 ·intro i v hv wr hx
  obtain ⟨r,hr2⟩:∃ r,rows[i]?=some r:=⟨rows[i]'(by rw [<- hvl]; exact (zh.1 hv).1),zg _⟩
  obtain ⟨B,k,cc,rfl,hkk,hs⟩:=hvr i v r hv hr2
  have hmem:=zk hr2
  refine zf (ziJ (c:=cc) (hs.nxt hx) hkk (by rw [<- hkk]; exact hr r hmem) (hl r hmem) (hok r hmem)) ?_
  rintro e w' ⟨gb',m',d',rfl,h0,h00,h1,h2⟩
  exact ⟨_,_,_,rfl,h0,h00,fun r' hr'=>by rw [hr2] at hr'; obtain rfl:=zl hr'; exact h1,h2⟩
 ·rintro e w' ⟨us, rfl, hb, hul, hq, hd, ho, hx⟩
  refine ⟨us,rfl,hb,hul,fun i u zs h1 h2=>?_,hd,ho,hx⟩
  unfold zbg at h2
  rw [List.getElem?_map] at h2
  cases hr2:rows[i]? with
  | none=>rw [hr2] at h2; cases h2
  | some r=>
   rw [hr2] at h2
   obtain rfl:=zl h2
   exact hq i u h1 r hr2
end Go.Proofs.YtombhkpniddceaaGreatDoor
