import Derived.Test.YtombhkpniddceaaGreatDoorM11
import Derived.Lib.AppendIntMem
import Derived.Lib.OwnBridge
import Derived.Sort.OwnSorted
set_option maxHeartbeats 6400000
set_option maxRecDepth 100000
set_option linter.all false
namespace Go.Proofs.YtombhkpniddceaaGreatDoor
open Go.RowKit
section
open Go.Sort Go.Lib
class Glo (w:World):Prop where
 tab:Lib.TabIs Tryz.prog w "internal/strconv.uint64pow10" .u64 Lib.pow10Tab
class NoG (g:Nat):Prop where
 out:4 < g
theorem zie:Tryz.prog.globalNamed "internal/strconv.uint64pow10" = some 4:=by kernel_rfl
theorem Glo.of_block {w w':World} (h:Glo w) (e:w'.heap[4]?=w.heap[4]?):Glo w':=⟨by
 have h:=h.tab
 unfold Lib.TabIs World.var? at h ⊢
 rw [zie] at h ⊢
 simp only [Option.bind_some] at h ⊢
 rw [e]; exact h⟩
theorem Glo.lt {w:World} (h:Glo w):4 < w.heap.size:=by
 rcases Nat.lt_or_ge 4 w.heap.size with hlt | hge
 ·exact hlt
 ·have h := h.tab
  unfold Lib.TabIs World.var? at h
  rw [zie] at h
  simp only [Option.bind_some] at h
  rw [Array.getElem?_eq_none hge] at h
  cases h
section
variable {w w' W X a:World} {g n i m:Nat} {x:Value} {o:Obj}
instance NoG.new [h:NewIn g a] [k:Glo a]:NoG g:=⟨Nat.lt_of_lt_of_le k.lt h.out⟩
instance NoG.size [k:Glo X]:NoG X.heap.size:=⟨k.lt⟩
instance NoG.succ [k:NoG n]:NoG (n+1):=⟨Nat.lt_succ_of_lt k.out⟩
instance Glo.was [h:Was W X] [k:Glo X]:Glo W:=by rw [h.out]; exact k
instance Glo.nxt [h:Nxt a w'] [k:Glo a]:Glo w':=k.of_block (h.out.block _ k.lt)
instance Glo.set_ [k:Glo X] [h:NoG g]:Glo (X.setCell ⟨g,i,none⟩ x):=k.of_block (Below.heap_setCell _ _ _ _ (by intro e; have:=h.out; simp only at e; omega))
instance Glo.drew [k:Glo X]:Glo X.drew:=k.of_block rfl
instance Glo.drewN [k:Glo X]:Glo (X.drewN m):=k.of_block rfl
instance Glo.alloc [k:Glo X]:Glo (X.alloc o):=k.of_block (((Below.refl X.heap.size X).alloc (zv _) o).block _ k.lt)
end
theorem below_grow (w:World) (k:Nat) (os:Array Obj):Below w.heap.size w (grow (w.drewN k) os):=
 ⟨rfl,rfl,rfl,by show w.heap.size <= (w.heap ++ os).size; simp,fun g hg=>heap_grow_old w k os g hg⟩
abbrev str (l:List UInt8):Value := .string ⟨l.toArray⟩
theorem zhc {u:Nat} (hu:u < B64) {w:World} [hg:Glo w]:
  Calls Tryz.prog 272 #[.int .u64 (u:Int),.int .i64 10] w (PRet w (str (Lib.decDigits u))):=by
 by_cases hs:u < 100
 ·have hd : decide ((u : Int) < 100) = true := by simp; omega
  have hw:IntKind.i64.wrap (u:Int)=(u:Int):=by rw [zx]; omega
  go_enter Tryz.func272,Tryz.ntmps272
  go_wp2_with (go_at_call 296; refine zf (Tryz.internal_strconv_small u hs _) ?_; rintro e w1 ⟨rfl,rfl⟩)
  go_ret
  exact ⟨rfl,zaa⟩
 ·have hd : decide ((u : Int) < 100) = false := by simp; omega
  have hu1:1 <= u:=by omega
  have hu64:u < 18446744073709551616:=hu
  have hnd20:Lib.nDigits u <= 20:=by have:=Lib.numDigits_eq u hu1 hu64; split at this <;> omega
  have hal:Tryz.prog.arrayLen 297=24:=by kernel_rfl
  have hsl:∀ W,(Instr.sliceAt 297 (.pointer (some ⟨w.heap.size,0,none⟩)) none (some (.int .i64 (Lib.nDigits u:Int))) none).run Tryz.prog W = .ok (.slice (some ⟨w.heap.size,0,none⟩) (Lib.nDigits u) 24) W:=fun W=>by
   rw [run_sliceAt_array_h W 297 ⟨w.heap.size,0,none⟩ (by simp [Program.arrayLen,Program.elem,Tryz.underlying297]) .i64 (Lib.nDigits u:Int) (by omega) (by rw [hal]; omega)]
   go_simp
  have hH0:=Lib.holds_zero0 w 297 (Lib.nDigits u) (by omega)
  have hfmt:=Tryz.internal_strconv_formatBase10 w.heap.size 0 24 u (Array.replicate (Lib.nDigits u) 0) (w.alloc (.cells Lib.zeros24 297)) hH0 (by rw [Array.size_replicate]; exact Lib.lt_pow_nDigits u) hu64 (by rw [Array.size_replicate]; omega)
  rw [Array.size_replicate] at hfmt
  have HH0:=Lib.hid hH0
  have HF:=zc hfmt
  clear hH0 hal hfmt hs
  go_enter Tryz.func272,Tryz.ntmps272
  go_wp2_with (go_at_call 297; refine zf (Tryz.internal_strconv_numDigits u hu1 hu64 _ (Glo.tab (w:=(w.alloc (.cells Lib.zeros24 297))))) ?_; rintro e w1 ⟨rfl,rfl⟩)
  refine zf HF.out ?_
  rintro e w' ⟨rfl,k,v',dk,rfl,hF⟩
  have hcv:(convert 235 9 (.slice (some ⟨w.heap.size,0,none⟩) (Lib.nDigits u) 24)).run Tryz.prog ((putRow (fun (b:UInt8)=>Value.int .u8 (b.toNat:Int)) (w.alloc (.cells Lib.zeros24 297)) w.heap.size 0 dk).drewN k) = .ok (.string ⟨(Lib.decDigits u).toArray⟩) ((putRow (fun (b:UInt8)=>Value.int .u8 (b.toNat:Int)) (w.alloc (.cells Lib.zeros24 297)) w.heap.size 0 dk).drewN k):=by
   have h:=run_convert_bytes_back (P:=Tryz.prog) ((putRow (fun (b:UInt8)=>Value.int .u8 (b.toNat:Int)) (w.alloc (.cells Lib.zeros24 297)) w.heap.size 0 dk).drewN k) 235 9 5 ⟨w.heap.size,0,none⟩ 24 (Lib.decDigits u) Tryz.underlying235 Tryz.underlying5 Tryz.underlying9 (fun j hj=>by
    rw [Lib.row_is_numeral hF j hj,Lib.add_plain,World.cell?_drewN]
    exact cell?_putRow (fun (b:UInt8)=>Value.int .u8 (b.toNat:Int)) _ w.heap.size 0 _ dk HH0.out (by rw [hF.size,Array.size_replicate]) j (by rw [hF.size]; rw [Lib.decDigits_length] at hj; exact hj))
   rw [Lib.decDigits_length] at h
   exact h
  have hfin:=Lib.fin_at w (.cells Lib.zeros24 297) dk k 0
  have HFIN:=Lib.hid hfin
  clear hfin HF HH0
  go_wp2_with fail
  go_ret
  obtain ⟨os,eo⟩:=HFIN.out
  exact ⟨rfl,by rw [eo]; exact ⟨below_grow _ _ _⟩⟩
theorem zbn {u:Nat} (hu:u < B64) {w:World} [hg:Glo w]:
  Calls Tryz.prog 244 #[.int .u64 (u:Int),.int .i64 10] w (PRet w (str (Lib.decDigits u))):=by
 go_enter Tryz.func244,Tryz.ntmps244
 go_wp2_with (go_at_call 272; refine zf (zhc hu) ?_; rintro e w1 ⟨rfl,_⟩)
 go_ret
 exact ⟨rfl,zaa⟩
end
def zgf:Prop:=∀ (w:World) [Glo w],Calls Tryz.prog 8 #[] w fun e w'=>e = .returned (.bool true)/\Below w.heap.size w w'
theorem zkv {w:World} {A:Option Addr} {ws:List Nat} {c:Nat} (h:WordsAt w A ws) (hc:ws.length <= c) (hm:c <= maxLen):NatIs w (.slice A (limbs (val ws)).length c) (val ws):=by
 obtain ⟨h1,h2⟩:=zc9 ws h.lt
 exact ⟨A,c,rfl,zo h1 hc,hm,by rw [<- h2]; exact h.take _⟩
theorem zji (A:Option Addr) (c:Nat) (us:List Nat) (b:Nat) (w:World) (ha:WordsAt w A us) (hl:us.length <= MaxW) (hb0:0 < b) (hb:b < B64):
  Calls Tryz.prog 243 #[.slice A us.length c,.int .u64 (b:Int)] w fun e w'=>
   ∃ k' c',e = .returned (.tuple #[.slice (some ⟨w.heap.size,0,none⟩) k' c',.int .u64 ((val us % b:Nat):Int)])/\NatIs w' (.slice (some ⟨w.heap.size,0,none⟩) k' c') (val us / b)/\Below w.heap.size w w':=by
 unfold MaxW at hl
 have hmk:∀ w:World,(Instr.makeSlice 96 (.int .i64 (us.length:Int)) (.int .i64 (us.length:Int))).run Tryz.prog w = .ok (.slice (some ⟨w.heap.size,0,none⟩) us.length us.length) (w.alloc (za6 us.length)):=zew us.length (by omega)
 go_enter Tryz.func243,Tryz.ntmps243
 go_wp2_with fail
 go_loopw [7,8] (fun s i wr=>∃ k rem:Nat,k <= us.length/\i = .int .i64 ((k:Int) - 1)/\s = .int .u64 (rem:Int)/\DwSt w wr w.heap.size us b k rem) (fun _ i _=>(intOf i+1).toNat)
 case atStart=>exact ⟨us.length,0,zv _,rfl,rfl,⟨[],by simp,by simpa using zc6 w us.length,by simp [val]⟩,hb0,(Below.refl _ _).alloc (zv _) _,zv _⟩
 case round=>
  obtain ⟨k,rem,hk,rfl,rfl,hst⟩:=hrel
  by_cases h0:0 < k
  ·obtain ⟨j, rfl⟩ : ∃ j, k = j + 1 := ⟨k - 1, by omega⟩
   rw [show ((j+1:Nat):Int) - 1=(j:Int) by omega]
   obtain ⟨ad,x,rfl,_,hcx,hxl,HX⟩:=(ha.below hst.below).get (show j < us.length by omega)
   obtain ⟨hz0,hz1⟩:=hst.cell
   go_wp2_with fail
   refine (div64 rem x b hst.lt hxl hb _).mono ?_
   rintro e w1 ⟨rfl,hd⟩
   have hz2:w1.cell? ⟨w.heap.size,j,none⟩=some (.int .u64 0):=by obtain ⟨_,rfl⟩:=hd; exact hz0
   have hz3:w1.frozen? ⟨w.heap.size,j,none⟩=false:=by obtain ⟨_,rfl⟩:=hd; exact hz1
   have HN:Hid (DwSt w (w1.setCell ⟨w.heap.size,j,none⟩ (.int .u64 (((rem * B64+x) / b:Nat):Int))) w.heap.size us b j ((rem * B64+x) % b)):=hst.next HX.out hxl hd rfl
   generalize (rem * B64+x) / b=q at *
   generalize (rem * B64+x) % b=r at *
   go_wp2_with fail
   go_roundw
   case rel=>exact ⟨j,r,by omega,rfl,rfl,HN.out⟩
   case measure=>simp [intOf]
  ·have hk0 : k = 0 := by omega
   obtain ⟨⟨qs,hql,hqb,hv⟩,hlt,hbe,_⟩:=hst
   rw [hk0,List.replicate_zero,List.nil_append] at hqb
   rw [hk0,List.drop_zero] at hv
   have hlen:qs.length=us.length:=by omega
   have e1:val us / b=val qs:=by rw [hv,zw,Nat.mul_add_div hb0,Nat.div_eq_of_lt hlt]; rfl
   have e2:val us % b=rem:=by rw [hv,zw,Nat.mul_add_mod,Nat.mod_eq_of_lt hlt]
   have HE1:=zc e1; have HE2:=zc e2
   have hw3:=hqb.words 0 qs.length
   rw [List.drop_zero,List.take_length] at hw3
   have c3:=ze9 (some ⟨w.heap.size,0,none⟩) us.length qs _ hw3 (by omega) (by unfold maxLen; omega)
   have c4:=zc (zkv hw3 (show qs.length <= us.length by omega) (show us.length <= maxLen by unfold maxLen; omega))
   rw [hlen] at c3
   clear hv e1 e2 hw3 hqb hql hlen
   go_wp2_with fail
   refine c3.mono ?_
   rintro e w3 ⟨rfl,rfl⟩
   go_wp2_with fail
   go_ret2
   exact ⟨_,_,by rw [HE2.out]; rfl,by rw [HE1.out]; exact c4.out,hbe⟩
theorem zin {v:Value} {n a t r:Nat} {w:World} [h:NatIs w v n] [d:WdN n a] (ha:a <= MaxW) (ht:0 < t) (hb:t < B64) (hr:n % t=r):
  Calls Tryz.prog 243 #[v,.int .u64 (t:Int)] w
   fun e w'=>∃ s:NV,s.A=some ⟨w.heap.size,0,none⟩/\e = .returned (.tuple #[s.v,.int .u64 (r:Int)])/\NatIs w' s.v (n / t)/\Nxt w w':=by
 obtain ⟨A,c,rfl,h11,h12,h13⟩:=h
 have:=zji A c _ t w h13 (by have:=d.out; unfold wl at this; omega) ht hb
 rw [zan,hr] at this
 exact this.mono fun _ _ ⟨k',c',he,hv,hbe⟩=>⟨⟨_,k',c'⟩,rfl,he,hv,⟨hbe⟩⟩
section
open Go.Sort Go.Lib
class OwnS (w:World) (v:Value) (base:outParam Nat) (l:outParam (List (List UInt8))):Prop where
 out:w.ownsRow base 9 1 v l.length (l.map encStr)
section
variable {w w' W X a:World} {v:Value} {base m:Nat} {l:List (List UInt8)} {o:Obj}
theorem OwnS.lt (h:OwnS w v base l):∀ k,v.ownBlock=some k -> base <= k/\k < w.heap.size:=h.out.lt
theorem OwnS.of_block (h:OwnS w v base l) (e:∀ k,k < w.heap.size -> w'.heap[k]?=w.heap[k]?):OwnS w' v base l:=by
 obtain ⟨h1,h2 | ⟨g,cap,cur,hv,hb,hh,hr⟩⟩:=h.out
 ·exact ⟨h1,Or.inl h2⟩
 ·refine ⟨h1, Or.inr ⟨g, cap, cur, hv, hb, ?_, hr⟩⟩
  have:=h.lt g (by rw [hv]; rfl)
  rw [e g this.2]; exact hh
theorem OwnS.nil (w:World) (base:Nat):OwnS w (.slice none 0 0) base []:=⟨World.ownsRow_nil w base _ _⟩
instance OwnS.was [h:Was W X] [k:OwnS X v base l]:OwnS W v base l:=by rw [h.out]; exact k
instance OwnS.nxt [h:Nxt a w'] [k:OwnS a v base l]:OwnS w' v base l:=k.of_block fun g hg=>h.out.block g hg
instance OwnS.drewN [k:OwnS X v base l]:OwnS (X.drewN m) v base l:=k.of_block fun _ _=>rfl
instance OwnS.drew [k:OwnS X v base l]:OwnS X.drew v base l:=k.of_block fun _ _=>rfl
instance OwnS.alloc [k:OwnS X v base l]:OwnS (X.alloc o) v base l:=k.of_block fun g hg=>((Below.refl X.heap.size X).alloc (zv _) o).block g hg
theorem Nxt.grown {w0:World} [h:Ext w0 w] (k:OwnS w v base l) (hb:w0.heap.size <= base) (hg:w.grownBy w' v.ownBlock):Nxt w0 w':=
 ⟨⟨hg.os.trans h.out.os, hg.tape.trans h.out.tape, hg.output.trans h.out.output, zo h.out.size hg.size, fun g hlt =>
  (hg.block g (Nat.lt_of_lt_of_le hlt h.out.size) (fun e=>by have:=(k.lt g e.symm).1; omega)).trans (h.out.block g hlt)⟩⟩
theorem NatIs.grown {n:Nat} {s:NV} {g:Nat} (h:NatIs w s.v n) (hA:s.A=some ⟨g,0,none⟩) (hne:some g ≠ v.ownBlock) (hg:w.grownBy w' v.ownBlock):NatIs w' s.v n:=by
 obtain ⟨A,c,e,h1,h2,h3⟩:=h
 have hA':A=some ⟨g,0,none⟩:=by injection e with e1 _ _; rw [<- e1]; exact hA
 refine ⟨A,c,e,h1,h2,h3.lt,fun j u hu=>?_⟩
 obtain ⟨ad,e,hl,hc⟩:=h3.at_ j u hu
 rw [hA'] at e
 injection e with e
 subst e
 exact ⟨_,hA',Nat.lt_of_lt_of_le hl hg.size,hg.cell hc (by rw [zaw]; exact hne)⟩
end
theorem ziM:(Tryz.prog.info? 9).map (fun i=>(i.zero,i.size,i.bytes))=some (some (.string ⟨#[]⟩),1,16):=by kernel_rfl
def padk (k r:Nat):List UInt8:=List.replicate (k - (Lib.decDigits r).length) 48 ++ Lib.decDigits r
theorem zbP {n:Nat} (h:n < 10):Lib.decDigits n=[UInt8.ofNat (48+n)]:=by rw [Lib.decDigits,dif_pos h]
theorem zdj {n:Nat} (h:10 <= n):Lib.decDigits n=Lib.decDigits (n / 10) ++ [UInt8.ofNat (48+n % 10)]:=by rw [Lib.decDigits,dif_neg (by omega)]
theorem zmZ {k r d:Nat} (hk:1 <= k) (hd:d < 10):padk (k+1) (10 * r+d)=padk k r ++ [UInt8.ofNat (48+d)]:=by
 unfold padk
 rcases Nat.eq_zero_or_pos r with rfl | hr
 ·rw [Nat.mul_zero, Nat.zero_add, zbP hd, zbP (show 0 < 10 by omega)]
  obtain ⟨j,rfl⟩:∃ j,k=j+1:=⟨k - 1,by omega⟩
  simp only [List.length_singleton,Nat.add_sub_cancel]
  rw [List.replicate_succ']
  rfl
 ·rw [zdj (n:=10 * r+d) (by omega),show (10 * r+d) / 10=r by omega,show (10 * r+d) % 10=d by omega,List.length_append,List.length_singleton,
   show k+1 - ((Lib.decDigits r).length+1)=k - (Lib.decDigits r).length by omega,List.append_assoc]
theorem zmj:∀ {k n:Nat},1 <= k -> 10 ^ k <= n -> Lib.decDigits n=Lib.decDigits (n / 10 ^ k) ++ padk k (n % 10 ^ k):=by
 intro k
 induction k with
 | zero=>intro n h; omega
 | succ k ih=>
  intro n _ hn
  rcases Nat.eq_zero_or_pos k with rfl | hk
  ·simp only [Nat.zero_add, Nat.pow_one] at hn ⊢
   rw [zdj hn]
   unfold padk
   rw [zbP (Nat.mod_lt _ (by omega))]
   rfl
  ·have h10 : 10 <= n := zo (by rw [Nat.pow_succ]; have : 0 < 10 ^ k := Nat.pow_pos (by omega); omega) hn
   rw [zdj h10,ih hk (show 10 ^ k <= n / 10 by rw [Nat.le_div_iff_mul_le (by omega),<- Nat.pow_succ]; exact hn)]
   have e1:n / 10 / 10 ^ k=n / 10 ^ (k+1):=by rw [Nat.div_div_eq_div_mul,Nat.pow_succ,zw]
   have e2:n % 10 ^ (k+1)=10 * (n / 10 % 10 ^ k)+n % 10:=by
    rw [Nat.pow_succ,zw (10 ^ k) 10,Nat.mod_mul,Nat.add_comm]
   rw [e1,e2,zmZ hk (Nat.mod_lt _ (by omega)),List.append_assoc]
theorem ziU (k:Nat):Lib.repeatL [48] k=List.replicate k 48:=by
 induction k with
 | zero=>rfl
 | succ k ih=>rw [Lib.repeatL,ih,List.replicate_succ]; rfl
def itoaZ (x:Int):List UInt8:=if x < 0 then 45 :: Lib.decDigits x.natAbs else Lib.decDigits x.natAbs
end
section
open Go.Sort Go.Lib
def StrRel (total B:Nat) (w:World) (s3 s4:Value) (wr:World):Prop:=
 ∃ (t:NV) (n:Nat) (l:List (List UInt8)),s4=t.v/\NatIs wr t.v n/\OwnS wr s3 B l/\Lib.decDigits total=Lib.decDigits n ++ l.reverse.flatten/\n * 10 ^ l.length <= total/\(n=0 -> l=[])/\Nxt w wr
theorem zjO {c:Nat} {z:Int} {w:World} (hz:z=(c:Int)) (hc:c <= 19):Calls Tryz.prog 245 #[.string ⟨#[48]⟩,.int .i64 z] w (PRet w (str (List.replicate c 48))):=by
 subst hz
 have h:=Tryz.strings_Repeat ⟨#[48]⟩ c w (by omega) (by show 1 * c <= _; omega)
 refine zf h ?_
 rintro e w' ⟨rfl,hb⟩
 exact ⟨by rw [<- ziU],⟨hb⟩⟩
theorem one_cell (X:World) (t:TypeId) (x:Value):∀ j u,[x][j]?=some u -> (X.alloc (.cells #[x] t)).cell? (Addr.add ⟨X.heap.size,0,none⟩ j)=some u:=by
 intro j u hu
 cases j with
 | zero=>
  obtain rfl:x=u:=by simpa using hu
  exact World.cell?_alloc_new _ _ _ _
 | succ j=>simp at hu
theorem zd5 {n len total a:Nat} (h:n * 10 ^ len <= total) (h0:1 <= n) (hw:wl total <= a) (ha:a <= 2 ^ 20):len <= 2 ^ 26:=by
 have h1:=zaz total
 have h2:B64 ^ wl total <= B64 ^ a:=zaV hw
 have h3:2 ^ len <= 10 ^ len:=Nat.pow_le_pow_left (by omega) _
 have h4:1 * 10 ^ len <= n * 10 ^ len:=Nat.mul_le_mul_right _ h0
 have h5:B64 ^ a=2 ^ (64 * a):=by rw [zbv,<- Nat.pow_mul]
 rcases Nat.lt_or_ge (64 * a) len with h | h
 ·have := Nat.pow_lt_pow_right (show 1 < 2 by omega) h
  omega
 ·omega
theorem zdk:∀ {k n:Nat},1 <= k -> n < 10 ^ k -> Lib.nDigits n <= k:=by
 intro k
 induction k with
 | zero=>intro n h; omega
 | succ k ih=>
  intro n _ hn
  rcases Nat.lt_or_ge n 10 with h | h
  ·rw [Lib.nDigits_small h]; omega
  ·rw [Lib.nDigits_big (by omega)]
   rcases Nat.eq_zero_or_pos k with rfl | hk
   ·simp at hn; omega
   ·have := ih (n := n / 10) hk (by rw [Nat.pow_succ] at hn; omega)
    omega
theorem zj7 {total n r:Nat} {l:List (List UInt8)} (h:Lib.decDigits total=Lib.decDigits n ++ l.reverse.flatten) (hn:10000000000000000000 <= n) (hr:n % 10000000000000000000=r):
  Lib.decDigits total=Lib.decDigits (n / 10000000000000000000) ++ (l ++ [padk 19 r]).reverse.flatten:=by
 rw [h,zmj (k:=19) (by omega) hn,List.reverse_append]
 simp only [List.reverse_singleton,List.singleton_append,List.flatten_cons,List.append_assoc]
 rw [show (10:Nat) ^ 19=10000000000000000000 from rfl,hr]
theorem zgS {total n:Nat} {l:List (List UInt8)} {p:List UInt8} (h:n * 10 ^ l.length <= total):n / 10000000000000000000 * 10 ^ (l ++ [p]).length <= total:=by
 refine zo ?_ h
 rw [List.length_append,List.length_singleton,Nat.pow_succ,zw (10 ^ l.length),<- Nat.mul_assoc]
 refine Nat.mul_le_mul_right _ ?_
 omega
theorem zg7 {w:World} {s:NV} {n:Nat} (h:NatIs w s.v n) (hw:wl n=1):∃ ad c,s=⟨some ad,1,c⟩/\w.cell? ad=some (.int .u64 (n:Int))/\n < B64:=by
 have hmb:n < B64:=by have:=zaz n; rwa [hw,Nat.pow_one] at this
 have hm0:n ≠ 0:=by rintro rfl; simp [wl,zao] at hw
 have hlim:limbs n=[n]:=by rw [zbb hm0,Nat.mod_eq_of_lt hmb,Nat.div_eq_of_lt hmb,zao]
 obtain ⟨A,k,c⟩:=s
 obtain ⟨A',c',e,i1,i2,i3⟩:=h
 injection e with e1 e2 e3
 subst e1 e2 e3
 rw [hlim] at i3
 obtain ⟨ad,x',rfl,hadl,hcx,_,HX⟩:=i3.get (k:=0) (by simp)
 obtain rfl:n=x':=by have:=HX.out; simpa using this
 exact ⟨ad,c,by rw [hlim]; rfl,hcx,hmb⟩
theorem zbM {n:Nat} (h:n=0) {w:World} [hg:Glo w]:
  Calls Tryz.prog 244 #[.int .u64 0,.int .i64 10] w (PRet w (str (Lib.decDigits n))):=by
 subst h
 exact zbn (u:=0) (by unfold B64; omega)
theorem zh5 (xs:List (List UInt8)):Lib.join xs []=xs.flatten:=by
 cases xs with
 | nil=>rfl
 | cons x r=>
  rw [Lib.join_cons,Lib.joinTail]
  simp
theorem zez {w:World} {v:Value} {base:Nat} {l:List (List UInt8)} (h:OwnS w v base l) (hl:l ≠ []):v ≠ .slice none 0 0:=by
 rintro rfl
 rcases h.out.2 with ⟨_,h0⟩ | ⟨g,cap,cur,e,_⟩
 ·exact hl (List.eq_nil_of_length_eq_zero h0)
 ·cases e
theorem zdH {v:Value} {base:Nat} {l:List (List UInt8)} {w:World} [h:OwnS w v base l] (hl:l ≠ []) (hb:l.length <= 2 ^ 40):
  Calls Tryz.prog 246 #[v] w (fun e w'=>e = .returned (.tuple #[])/\OwnS w' v base l.reverse/\w.grownBy w' v.ownBlock):=by
 have ho:=h.out
 obtain ⟨g,cap,rfl,_,_,_,_,hlen,hH⟩:=Lib.holds_of_ownsRow ho (zez h hl)
 refine zf (Tryz.slices_Reverse_string g 0 cap l w hH (by omega)) ?_
 rintro e w' ⟨rfl,q,rfl⟩
 refine ⟨rfl,⟨?_⟩,?_⟩
 ·have := Lib.ownsRow_putRow (q := q) (ys := l.reverse) ho (by simp) (zv _)
  rw [List.take_of_length_le (by simp)] at this
  rw [List.length_reverse]
  exact this
 ·exact grownBy_sorted (os:=#[]) _
theorem zj1 {v:Value} {base:Nat} {l:List (List UInt8)} {w:World} [h:OwnS w v base l] (hl:l ≠ []) {t:List UInt8} (hb:l.length <= 2 ^ 40) (ht:l.flatten=t) (hf:t.length <= 2 ^ 40):
  Calls Tryz.prog 247 #[v,.string ⟨#[]⟩] w (PRet w (str t)):=by
 subst ht
 have ho:=h.out
 obtain ⟨g,cap,rfl,_,hg,hn,_,hlen,hH⟩:=Lib.holds_of_ownsRow ho (zez h hl)
 have hlm:(l.map (fun b=>(⟨b.toArray⟩:ByteArray))).length=l.length:=by simp
 have hmm:(l.map (fun b=>(⟨b.toArray⟩:ByteArray))).map (·.data.toList)=l:=by
  rw [List.map_map]
  exact (List.map_congr_left (fun x _=>by simp)).trans (List.map_id _)
 have h1:=Tryz.strings_Join g 0 cap (l.map (fun b=>(⟨b.toArray⟩:ByteArray))) ⟨#[]⟩ w (by
  intro j x hx
  have:=ho.cells (g:=g) rfl j (.string x) (by
   rw [List.getElem?_map] at hx ⊢
   cases hj:l[j]? with
   | none=>rw [hj] at hx; cases hx
   | some b=>rw [hj] at hx; simpa using hx)
  by_cases hj0:j=0
  ·subst hj0; simpa [Addr.add] using this
  ·simpa [Addr.add,hj0] using this) hg (by omega) (by omega) (by rw [hmm,show (ByteArray.mk #[]).data.toList=[] from rfl,zh5]; omega)
 rw [hlm,hmm,show (ByteArray.mk #[]).data.toList=[] from rfl,zh5] at h1
 refine zf h1 ?_
 rintro e w' ⟨rfl,hb⟩
 exact ⟨rfl,⟨hb⟩⟩
theorem OwnS.nxt_grown {w0 w w':World} {v:Value} {base:Nat} {l:List (List UInt8)} [h:Ext w0 w] (k:OwnS w v base l) (hb:w0.heap.size <= base) (hg:w.grownBy w' v.ownBlock):Nxt w0 w':=Nxt.grown k hb hg
theorem zh9 {v1:Value} {x:Int} {a:Nat} {w:World} [h1:IntIs w v1 x] [d1:Wd x a] [hg:Glo w] (ha:a <= 2 ^ 20):
  Calls Tryz.prog 215 #[v1] w (PRet w (str (itoaZ x))):=by
 obtain ⟨s,rfl,HB,k1⟩:=h1.form
 obtain ⟨i0,hi,hz0,hz1,hz2⟩:=info_parts ziM
 have HI:=zc hi; have HZ0:=zc hz0; have HZ1:=zc hz1; have HZ2:=zc hz2
 have hM:a+9 <= MaxW:=by unfold MaxW; omega
 clear hi hz0 hz1 hz2
 go_enter Tryz.func215,Tryz.ntmps215
 go_wp2_with fail
 go_loopw [3,4] (fun s3 s4 wr=>StrRel x.natAbs (w.heap.size+1) (w.alloc (.cells #[.bool s.b,.slice s.m.A s.m.k s.m.c] 98)) s3 s4 wr) (fun _ s4 wr=>natOf wr s4)
 case atStart=>exact ⟨s.m,x.natAbs,[],rfl,za,OwnS.nil _ _,by simp,by simp,fun _=>rfl,zaa⟩
 case round=>
  obtain ⟨t,n,l,rfl,i1,i2,hdg,hnt,hll,_⟩:=hrel
  have hk:=i1.len'
  have HDG:=zc hdg; have HNT:=zc hnt; have HLL:=zc hll
  have dn:WdN n a:=⟨zo (zar (zo (Nat.le_mul_of_pos_right _ (Nat.pow_pos (by omega))) hnt)) d1.out⟩
  clear hdg hnt hll
  by_cases hbig:1 < wl n
  ·have hc : decide ((1 : Int) < (t.k : Int)) = true := by rw [hk]; simp; omega
   have hc':(1:Int) < (t.k:Int):=by rw [hk]; omega
   have hn:10000000000000000000 <= n:=by
    rcases Nat.lt_or_ge n B64 with h | h
    ·have:=zaf (n:=n) (k:=1) (by rw [Nat.pow_one]; exact h); omega
    ·unfold B64 at h; omega
   clear hbig
   obtain ⟨r,hr⟩:∃ r,n % 10000000000000000000=r:=⟨_,rfl⟩
   have hrl:r < 10000000000000000000:=by omega
   have HR:=zc hr; have HRL:=zc hrl; have HN:=zc hn
   have HCB:Hid ((10000000000000000000:Nat) < B64):=by show _ < _; unfold B64; omega
   have HRB:Hid (r < B64):=by show _ < _; unfold B64; omega
   have hlen:(Lib.decDigits r).length <= 19:=by
    rw [Lib.decDigits_length]
    rcases Nat.lt_or_ge (Lib.nDigits r) 20 with h | h
    ·omega
    ·have:=zdk (k:=19) (n:=r) (by omega) (by omega); omega
   have HW:=zc (show wrap64 (19 - ((Lib.decDigits r).length:Int))=((19 - (Lib.decDigits r).length:Nat):Int) by unfold wrap64; omega)
   have HW2:=zc (show 19 - ((Lib.decDigits r).length:Int)=((19 - (Lib.decDigits r).length:Nat):Int) by omega)
   have HL19:=zc (show 19 - (Lib.decDigits r).length <= 19 by omega)
   have hsz:¬ 9223372036854775807 < 19 - (Lib.decDigits r).length+(Lib.decDigits r).length:=by omega
   have HLC:=zc (zd5 HNT.out (show 1 <= n by omega) d1.out ha)
   clear hk hn hr hrl hlen
   go_wp2_with ((first
    | (go_at_call 243; refine zf (zin (a:=a) (t:=10000000000000000000) (by omega) (by omega) HCB.out HR.out) ?_; rintro e w1 ⟨s1,hA,rfl,_,_⟩)
    | (go_at_call 244; refine zf (zbn HRB.out) ?_; rintro e w1 ⟨rfl,_⟩)
    | (go_at_call 245; refine zf (zjO (by first | exact HW.out | exact HW2.out) HL19.out) ?_; rintro e w1 ⟨rfl,_⟩)
    | (at_builtin; refine wpList_append_own _ rfl _ _ 249 rfl (w.heap.size+1) 9 i0 (.string ⟨#[]⟩) 1 16 Tryz.underlying249 HI.out HZ0.out HZ1.out HZ2.out rfl (by decide) u3 _ _ rfl OwnS.out ⟨w1.heap.size,0,none⟩ 1 1 [_] rfl rfl (one_cell w1 _ _) (fun u hu=>by rw [List.mem_singleton.1 hu]; rfl) (by have:=HLC.out; unfold maxLen; omega) (by have:=HLC.out; omega) (by have:=(za:Ext (w.alloc (.cells #[.bool s.b,.slice s.m.A s.m.k s.m.c] 98)) w1).out.size; rw [World.size_alloc] at this ⊢; omega) ?_; intro v5 w5 ho hg5 _)))
   have hown:OwnS w5 v5 (w.heap.size+1) (l ++ [padk 19 r]):=⟨by
    have h:=ho
    simp only [List.length_append,List.length_singleton,List.map_append,List.map_cons,List.map_nil]
    rw [show encStr (padk 19 r)=Value.string ({ data:=Array.replicate (19 - (Lib.decDigits r).length) 48 } ++ { data:=(Lib.decDigits r).toArray }) by
     show Value.string _=_
     congr 1]
    exact h⟩
   have hn5:NatIs w5 s1.v (n / 10000000000000000000):=NatIs.grown (v:=u3) za hA (fun e=>by have:=(i2.lt _ e.symm).2; omega) hg5
   have hn6:NatIs w5 (.slice (some ⟨wr.heap.size,0,none⟩) s1.k s1.c) (n / 10000000000000000000):=by rw [<- hA]; exact hn5
   go_roundw
   case rel=>(repeat apply Exists.intro); exact ⟨⟨⟨some ⟨wr.heap.size,0,none⟩,s1.k,s1.c⟩,_,_,rfl,hn6,hown,zj7 HDG.out HN.out HR.out,zgS HNT.out,fun h=>absurd h (by have:=HN.out; omega),Nxt.grown (v:=u3) (base:=w.heap.size+1) (l:=l) za (by rw [World.size_alloc]; exact zv _) hg5⟩,rfl⟩
   case measure=>
    exact Nat.lt_of_le_of_lt (Nat.le_of_eq (zbY hn6)) (Nat.lt_of_lt_of_le (show n / 10000000000000000000 < n by have:=HN.out; omega) (Nat.le_of_eq (zbY i1).symm))
  ·by_cases hone : wl n = 1
   ·obtain ⟨ad, c, rfl, hcell, hnb⟩ := zg7 i1 hone
    have HCELL:=zc hcell
    by_cases hbig2:10000000000000000000 <= n
    ·have hc1 : decide ((10000000000000000000 : Int) <= (n : Int)) = true := by simp; omega
     have hn:=hbig2
     clear hbig hone hbig2 hnb
     obtain ⟨r,hr⟩:∃ r,n % 10000000000000000000=r:=⟨_,rfl⟩
     have hrl:r < 10000000000000000000:=by omega
     have HR:=zc hr; have HRL:=zc hrl; have HN:=zc hn
     have HCB:Hid ((10000000000000000000:Nat) < B64):=by show _ < _; unfold B64; omega
     have HRB:Hid (r < B64):=by show _ < _; unfold B64; omega
     have hlen:(Lib.decDigits r).length <= 19:=by
      rw [Lib.decDigits_length]
      rcases Nat.lt_or_ge (Lib.nDigits r) 20 with h | h
      ·omega
      ·have:=zdk (k:=19) (n:=r) (by omega) (by omega); omega
     have HW:=zc (show wrap64 (19 - ((Lib.decDigits r).length:Int))=((19 - (Lib.decDigits r).length:Nat):Int) by unfold wrap64; omega)
     have HW2:=zc (show 19 - ((Lib.decDigits r).length:Int)=((19 - (Lib.decDigits r).length:Nat):Int) by omega)
     have HL19:=zc (show 19 - (Lib.decDigits r).length <= 19 by omega)
     have hsz:¬ 9223372036854775807 < 19 - (Lib.decDigits r).length+(Lib.decDigits r).length:=by omega
     have HLC:=zc (zd5 HNT.out (show 1 <= n by omega) d1.out ha)
     clear hk hn hr hrl hlen
     go_wp2_with ((first
      | (go_at_call 243; refine zf (zin (a:=a) (t:=10000000000000000000) (by omega) (by omega) HCB.out HR.out) ?_; rintro e w1 ⟨s1,hA,rfl,_,_⟩)
      | (go_at_call 244; refine zf (zbn HRB.out) ?_; rintro e w1 ⟨rfl,_⟩)
      | (go_at_call 245; refine zf (zjO (by first | exact HW.out | exact HW2.out) HL19.out) ?_; rintro e w1 ⟨rfl,_⟩)
      | (at_builtin; refine wpList_append_own _ rfl _ _ 249 rfl (w.heap.size+1) 9 i0 (.string ⟨#[]⟩) 1 16 Tryz.underlying249 HI.out HZ0.out HZ1.out HZ2.out rfl (by decide) u3 _ _ rfl OwnS.out ⟨w1.heap.size,0,none⟩ 1 1 [_] rfl rfl (one_cell w1 _ _) (fun u hu=>by rw [List.mem_singleton.1 hu]; rfl) (by have:=HLC.out; unfold maxLen; omega) (by have:=HLC.out; omega) (by have:=(za:Ext (w.alloc (.cells #[.bool s.b,.slice s.m.A s.m.k s.m.c] 98)) w1).out.size; rw [World.size_alloc] at this ⊢; omega) ?_; intro v5 w5 ho hg5 _)))
     have hown:OwnS w5 v5 (w.heap.size+1) (l ++ [padk 19 r]):=⟨by
      have h:=ho
      simp only [List.length_append,List.length_singleton,List.map_append,List.map_cons,List.map_nil]
      rw [show encStr (padk 19 r)=Value.string ({ data:=Array.replicate (19 - (Lib.decDigits r).length) 48 } ++ { data:=(Lib.decDigits r).toArray }) by
       show Value.string _=_
       congr 1]
      exact h⟩
     have hn5:NatIs w5 s1.v (n / 10000000000000000000):=NatIs.grown (v:=u3) za hA (fun e=>by have:=(i2.lt _ e.symm).2; omega) hg5
     have hn6:NatIs w5 (.slice (some ⟨wr.heap.size,0,none⟩) s1.k s1.c) (n / 10000000000000000000):=by rw [<- hA]; exact hn5
     go_roundw
     case rel=>(repeat apply Exists.intro); exact ⟨⟨⟨some ⟨wr.heap.size,0,none⟩,s1.k,s1.c⟩,_,_,rfl,hn6,hown,zj7 HDG.out HN.out HR.out,zgS HNT.out,fun h=>absurd h (by have:=HN.out; omega),Nxt.grown (v:=u3) (base:=w.heap.size+1) (l:=l) za (by rw [World.size_alloc]; exact zv _) hg5⟩,rfl⟩
     case measure=>
      exact Nat.lt_of_le_of_lt (Nat.le_of_eq (zbY hn6)) (Nat.lt_of_lt_of_le (show n / 10000000000000000000 < n by have:=HN.out; omega) (Nat.le_of_eq (zbY i1).symm))
    ·have hc1 : decide ((10000000000000000000 : Int) <= (n : Int)) = false := by simp; omega
     clear hbig hone hbig2
     have HNB:=zc hnb
     have HLL2:=zc (show l.length <= 2 ^ 26 by
      rcases Nat.eq_zero_or_pos n with h0 | h0
      ·rw [HLL.out h0]; exact Nat.zero_le _
      ·exact zd5 HNT.out h0 d1.out ha)
     clear hnb hk
     have HFL:=zc (show (itoaZ x).length <= 2 ^ 40 by
      have h1:=zaz x.natAbs
      have h2:B64 ^ wl x.natAbs <= B64 ^ a:=zaV d1.out
      have h3:B64 ^ a=2 ^ (64 * a):=by rw [zbv,<- Nat.pow_mul]
      have h4:2 ^ (64 * a) <= 10 ^ (64 * a):=Nat.pow_le_pow_left (by omega) _
      have h5:10 ^ (64 * a) <= 10 ^ (64 * a+1):=Nat.pow_le_pow_right (by omega) (by omega)
      have h6:=zdk (k:=64 * a+1) (n:=x.natAbs) (by omega) (by omega)
      unfold itoaZ
      split
      ·rw [List.length_cons,Lib.decDigits_length]; omega
      ·rw [Lib.decDigits_length]; omega)
     by_cases hneg:s.b=true
     ·have HTXT:=zc (show (l ++ [Lib.decDigits n] ++ [[45]]).reverse.flatten=itoaZ x by
       have hx:x < 0:=by have:=HB.out; rw [hneg] at this; simpa using this.symm
       unfold itoaZ; rw [if_pos hx,HDG.out]; simp)
      go_wp2_with ((first
       | (go_at_call 244; refine zf (zbn HNB.out) ?_; rintro e w1 ⟨rfl,_⟩)
       | (go_at_call 244; refine zf (zbM HN0.out) ?_; rintro e w1 ⟨rfl,_⟩)
       | (at_builtin; refine wpList_append_own _ rfl _ _ 249 rfl (w.heap.size+1) 9 i0 (.string ⟨#[]⟩) 1 16 Tryz.underlying249 HI.out HZ0.out HZ1.out HZ2.out rfl (by decide) v5 _ _ rfl OwnS.out ⟨w5.heap.size,0,none⟩ 1 1 [encStr [45]] rfl rfl (one_cell w5 _ _) (fun u hu=>by rw [List.mem_singleton.1 hu]; rfl) (by have:=HLL2.out; unfold maxLen; simp; omega) (by have:=HLL2.out; simp; omega) (by have:=(za:Ext (w.alloc (.cells #[.bool s.b,.slice s.m.A s.m.k s.m.c] 98)) w5).out.size; rw [World.size_alloc] at this ⊢; omega) ?_; intro v6 w6 ho6 hg6 _; have hown6:OwnS w6 v6 (w.heap.size+1) (l ++ [Lib.decDigits n] ++ [[45]]):=⟨by have h:=ho6; simpa using h⟩;  have hnx6:Nxt (w.alloc (.cells #[.bool s.b,.slice s.m.A s.m.k s.m.c] 98)) w6:=OwnS.nxt_grown (v:=v5) (base:=w.heap.size+1) (l:=l ++ [Lib.decDigits n]) za (by rw [World.size_alloc]; exact zv _) hg6)
       | (go_at_call 246; refine zf (zdH (l:=l ++ [Lib.decDigits n] ++ [[45]]) (by simp) (by have:=HLL2.out; simp; omega)) ?_; rintro e w1 ⟨rfl,hown7,hg7⟩); have hnx7:Nxt (w.alloc (.cells #[.bool s.b,.slice s.m.A s.m.k s.m.c] 98)) w1:=OwnS.nxt_grown (v:=v6) (base:=w.heap.size+1) (l:=l ++ [Lib.decDigits n] ++ [[45]]) za (by rw [World.size_alloc]; exact zv _) hg7
       | (at_builtin; refine wpList_append_own _ rfl _ _ 249 rfl (w.heap.size+1) 9 i0 (.string ⟨#[]⟩) 1 16 Tryz.underlying249 HI.out HZ0.out HZ1.out HZ2.out rfl (by decide) u3 _ _ rfl OwnS.out ⟨w1.heap.size,0,none⟩ 1 1 [encStr (Lib.decDigits n)] rfl rfl (one_cell w1 _ _) (fun u hu=>by rw [List.mem_singleton.1 hu]; rfl) (by have:=HLL2.out; unfold maxLen; omega) (by have:=HLL2.out; omega) (by have:=(za:Ext (w.alloc (.cells #[.bool s.b,.slice s.m.A s.m.k s.m.c] 98)) w1).out.size; rw [World.size_alloc] at this ⊢; omega) ?_; intro v5 w5 ho5 hg5 _; have hown5:OwnS w5 v5 (w.heap.size+1) (l ++ [Lib.decDigits n]):=⟨by have h:=ho5; simpa using h⟩; have hnx5:Nxt (w.alloc (.cells #[.bool s.b,.slice s.m.A s.m.k s.m.c] 98)) w5:=Nxt.grown (v:=u3) (base:=w.heap.size+1) (l:=l) za (by rw [World.size_alloc]; exact zv _) hg5)
       | (go_at_call 247; refine zf (zj1 (l:=(l ++ [Lib.decDigits n] ++ [[45]]).reverse) (by simp) (by have:=HLL2.out; simp; omega) HTXT.out HFL.out) ?_; rintro e w1 ⟨rfl,_⟩)))
      go_ret
      exact ⟨rfl,zaa⟩
     ·have HTXT:=zc (show (l ++ [Lib.decDigits n]).reverse.flatten=itoaZ x by
       have hx:¬ x < 0:=by have:=HB.out; simp only [hneg] at this; intro h; rw [decide_eq_true h] at this; exact absurd this (by decide)
       unfold itoaZ; rw [if_neg hx,HDG.out]; simp)
      go_wp2_with ((first
       | (go_at_call 244; refine zf (zbn HNB.out) ?_; rintro e w1 ⟨rfl,_⟩)
       | (go_at_call 244; refine zf (zbM HN0.out) ?_; rintro e w1 ⟨rfl,_⟩)
       | (go_at_call 246; refine zf (zdH (l:=l ++ [Lib.decDigits n]) (by simp) (by have:=HLL2.out; simp; omega)) ?_; rintro e w1 ⟨rfl,hown7,hg7⟩); have hnx7:Nxt (w.alloc (.cells #[.bool s.b,.slice s.m.A s.m.k s.m.c] 98)) w1:=OwnS.nxt_grown (v:=v5) (base:=w.heap.size+1) (l:=l ++ [Lib.decDigits n]) za (by rw [World.size_alloc]; exact zv _) hg7
       | (at_builtin; refine wpList_append_own _ rfl _ _ 249 rfl (w.heap.size+1) 9 i0 (.string ⟨#[]⟩) 1 16 Tryz.underlying249 HI.out HZ0.out HZ1.out HZ2.out rfl (by decide) u3 _ _ rfl OwnS.out ⟨w1.heap.size,0,none⟩ 1 1 [encStr (Lib.decDigits n)] rfl rfl (one_cell w1 _ _) (fun u hu=>by rw [List.mem_singleton.1 hu]; rfl) (by have:=HLL2.out; unfold maxLen; omega) (by have:=HLL2.out; omega) (by have:=(za:Ext (w.alloc (.cells #[.bool s.b,.slice s.m.A s.m.k s.m.c] 98)) w1).out.size; rw [World.size_alloc] at this ⊢; omega) ?_; intro v5 w5 ho5 hg5 _; have hown5:OwnS w5 v5 (w.heap.size+1) (l ++ [Lib.decDigits n]):=⟨by have h:=ho5; simpa using h⟩; have hnx5:Nxt (w.alloc (.cells #[.bool s.b,.slice s.m.A s.m.k s.m.c] 98)) w5:=Nxt.grown (v:=u3) (base:=w.heap.size+1) (l:=l) za (by rw [World.size_alloc]; exact zv _) hg5)
       | (go_at_call 247; refine zf (zj1 (l:=(l ++ [Lib.decDigits n]).reverse) (by simp) (by have:=HLL2.out; simp; omega) HTXT.out HFL.out) ?_; rintro e w1 ⟨rfl,_⟩)))
      go_ret
      exact ⟨rfl,zaa⟩
   ·have hn0:n=0:=by
     rcases Nat.eq_zero_or_pos n with h | h
     ·exact h
     ·have:=ze4 (n:=n) (by omega); omega
    have hk0:t.k=0:=(NatIs.len_zero i1).2 hn0
    obtain ⟨A,k,c⟩:=t
    simp only at hk0
    subst hk0
    have hnb:n < B64:=by unfold B64; omega
    have HN0:=zc hn0
    clear hbig hone hn0
    have HNB:=zc hnb
    have HLL2:=zc (show l.length <= 2 ^ 26 by
     rcases Nat.eq_zero_or_pos n with h0 | h0
     ·rw [HLL.out h0]; exact Nat.zero_le _
     ·exact zd5 HNT.out h0 d1.out ha)
    clear hnb hk
    have HFL:=zc (show (itoaZ x).length <= 2 ^ 40 by
     have h1:=zaz x.natAbs
     have h2:B64 ^ wl x.natAbs <= B64 ^ a:=zaV d1.out
     have h3:B64 ^ a=2 ^ (64 * a):=by rw [zbv,<- Nat.pow_mul]
     have h4:2 ^ (64 * a) <= 10 ^ (64 * a):=Nat.pow_le_pow_left (by omega) _
     have h5:10 ^ (64 * a) <= 10 ^ (64 * a+1):=Nat.pow_le_pow_right (by omega) (by omega)
     have h6:=zdk (k:=64 * a+1) (n:=x.natAbs) (by omega) (by omega)
     unfold itoaZ
     split
     ·rw [List.length_cons,Lib.decDigits_length]; omega
     ·rw [Lib.decDigits_length]; omega)
    by_cases hneg:s.b=true
    ·have HTXT:=zc (show (l ++ [Lib.decDigits n] ++ [[45]]).reverse.flatten=itoaZ x by
      have hx:x < 0:=by have:=HB.out; rw [hneg] at this; simpa using this.symm
      unfold itoaZ; rw [if_pos hx,HDG.out]; simp)
     go_wp2_with ((first
      | (go_at_call 244; refine zf (zbn HNB.out) ?_; rintro e w1 ⟨rfl,_⟩)
      | (go_at_call 244; refine zf (zbM HN0.out) ?_; rintro e w1 ⟨rfl,_⟩)
      | (at_builtin; refine wpList_append_own _ rfl _ _ 249 rfl (w.heap.size+1) 9 i0 (.string ⟨#[]⟩) 1 16 Tryz.underlying249 HI.out HZ0.out HZ1.out HZ2.out rfl (by decide) v5 _ _ rfl OwnS.out ⟨w5.heap.size,0,none⟩ 1 1 [encStr [45]] rfl rfl (one_cell w5 _ _) (fun u hu=>by rw [List.mem_singleton.1 hu]; rfl) (by have:=HLL2.out; unfold maxLen; simp; omega) (by have:=HLL2.out; simp; omega) (by have:=(za:Ext (w.alloc (.cells #[.bool s.b,.slice s.m.A s.m.k s.m.c] 98)) w5).out.size; rw [World.size_alloc] at this ⊢; omega) ?_; intro v6 w6 ho6 hg6 _; have hown6:OwnS w6 v6 (w.heap.size+1) (l ++ [Lib.decDigits n] ++ [[45]]):=⟨by have h:=ho6; simpa using h⟩;  have hnx6:Nxt (w.alloc (.cells #[.bool s.b,.slice s.m.A s.m.k s.m.c] 98)) w6:=OwnS.nxt_grown (v:=v5) (base:=w.heap.size+1) (l:=l ++ [Lib.decDigits n]) za (by rw [World.size_alloc]; exact zv _) hg6)
      | (go_at_call 246; refine zf (zdH (l:=l ++ [Lib.decDigits n] ++ [[45]]) (by simp) (by have:=HLL2.out; simp; omega)) ?_; rintro e w1 ⟨rfl,hown7,hg7⟩); have hnx7:Nxt (w.alloc (.cells #[.bool s.b,.slice s.m.A s.m.k s.m.c] 98)) w1:=OwnS.nxt_grown (v:=v6) (base:=w.heap.size+1) (l:=l ++ [Lib.decDigits n] ++ [[45]]) za (by rw [World.size_alloc]; exact zv _) hg7
      | (at_builtin; refine wpList_append_own _ rfl _ _ 249 rfl (w.heap.size+1) 9 i0 (.string ⟨#[]⟩) 1 16 Tryz.underlying249 HI.out HZ0.out HZ1.out HZ2.out rfl (by decide) u3 _ _ rfl OwnS.out ⟨w1.heap.size,0,none⟩ 1 1 [encStr (Lib.decDigits n)] rfl rfl (one_cell w1 _ _) (fun u hu=>by rw [List.mem_singleton.1 hu]; rfl) (by have:=HLL2.out; unfold maxLen; omega) (by have:=HLL2.out; omega) (by have:=(za:Ext (w.alloc (.cells #[.bool s.b,.slice s.m.A s.m.k s.m.c] 98)) w1).out.size; rw [World.size_alloc] at this ⊢; omega) ?_; intro v5 w5 ho5 hg5 _; have hown5:OwnS w5 v5 (w.heap.size+1) (l ++ [Lib.decDigits n]):=⟨by have h:=ho5; simpa using h⟩; have hnx5:Nxt (w.alloc (.cells #[.bool s.b,.slice s.m.A s.m.k s.m.c] 98)) w5:=Nxt.grown (v:=u3) (base:=w.heap.size+1) (l:=l) za (by rw [World.size_alloc]; exact zv _) hg5)
      | (go_at_call 247; refine zf (zj1 (l:=(l ++ [Lib.decDigits n] ++ [[45]]).reverse) (by simp) (by have:=HLL2.out; simp; omega) HTXT.out HFL.out) ?_; rintro e w1 ⟨rfl,_⟩)))
     go_ret
     exact ⟨rfl,zaa⟩
    ·have HTXT:=zc (show (l ++ [Lib.decDigits n]).reverse.flatten=itoaZ x by
      have hx:¬ x < 0:=by have:=HB.out; simp only [hneg] at this; intro h; rw [decide_eq_true h] at this; exact absurd this (by decide)
      unfold itoaZ; rw [if_neg hx,HDG.out]; simp)
     go_wp2_with ((first
      | (go_at_call 244; refine zf (zbn HNB.out) ?_; rintro e w1 ⟨rfl,_⟩)
      | (go_at_call 244; refine zf (zbM HN0.out) ?_; rintro e w1 ⟨rfl,_⟩)
      | (go_at_call 246; refine zf (zdH (l:=l ++ [Lib.decDigits n]) (by simp) (by have:=HLL2.out; simp; omega)) ?_; rintro e w1 ⟨rfl,hown7,hg7⟩); have hnx7:Nxt (w.alloc (.cells #[.bool s.b,.slice s.m.A s.m.k s.m.c] 98)) w1:=OwnS.nxt_grown (v:=v5) (base:=w.heap.size+1) (l:=l ++ [Lib.decDigits n]) za (by rw [World.size_alloc]; exact zv _) hg7
      | (at_builtin; refine wpList_append_own _ rfl _ _ 249 rfl (w.heap.size+1) 9 i0 (.string ⟨#[]⟩) 1 16 Tryz.underlying249 HI.out HZ0.out HZ1.out HZ2.out rfl (by decide) u3 _ _ rfl OwnS.out ⟨w1.heap.size,0,none⟩ 1 1 [encStr (Lib.decDigits n)] rfl rfl (one_cell w1 _ _) (fun u hu=>by rw [List.mem_singleton.1 hu]; rfl) (by have:=HLL2.out; unfold maxLen; omega) (by have:=HLL2.out; omega) (by have:=(za:Ext (w.alloc (.cells #[.bool s.b,.slice s.m.A s.m.k s.m.c] 98)) w1).out.size; rw [World.size_alloc] at this ⊢; omega) ?_; intro v5 w5 ho5 hg5 _; have hown5:OwnS w5 v5 (w.heap.size+1) (l ++ [Lib.decDigits n]):=⟨by have h:=ho5; simpa using h⟩; have hnx5:Nxt (w.alloc (.cells #[.bool s.b,.slice s.m.A s.m.k s.m.c] 98)) w5:=Nxt.grown (v:=u3) (base:=w.heap.size+1) (l:=l) za (by rw [World.size_alloc]; exact zv _) hg5)
      | (go_at_call 247; refine zf (zj1 (l:=(l ++ [Lib.decDigits n]).reverse) (by simp) (by have:=HLL2.out; simp; omega) HTXT.out HFL.out) ?_; rintro e w1 ⟨rfl,_⟩)))
     go_ret
     exact ⟨rfl,zaa⟩
end
end Go.Proofs.YtombhkpniddceaaGreatDoor
