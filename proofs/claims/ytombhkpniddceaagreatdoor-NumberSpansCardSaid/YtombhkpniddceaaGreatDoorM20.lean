import Derived.Test.YtombhkpniddceaaGreatDoorM19
set_option maxHeartbeats 3200000
set_option linter.all false
namespace Go.Proofs.YtombhkpniddceaaGreatDoor
open Go.RowKit
def VAt (w:World) (A:Option Addr) (vs:List Value):Prop:=∀ i v,vs[i]?=some v -> ∃ ad,A=some ad/\w.cell? (ad.add i)=some v
theorem zaB {w w':World} {p:Addr} {v:Value} (h:Nxt w w') (hc:w.cell? p=some v):w'.cell? p=some v:=by
 have hlt:p.block < w.heap.size:=by
  rcases Nat.lt_or_ge p.block w.heap.size with hlt | hge
  ·exact hlt
  ·unfold World.cell? at hc
   rw [Array.getElem?_eq_none hge] at hc
   simp at hc
 unfold World.cell? at hc ⊢
 rw [h.out.block _ hlt]; exact hc
theorem VAt.nxt {w w':World} {A:Option Addr} {vs:List Value} (hv:VAt w A vs) (h:Nxt w w'):VAt w' A vs:=fun i v hi=>by
 obtain ⟨ad,e,hc⟩:=hv i v hi
 exact ⟨ad,e,zaB h hc⟩
theorem SAt.vat {w:World} {A:Option Addr} {ws:List (List UInt8)} (h:SAt w A ws):VAt w A (ws.map str):=fun i v hi=>by
 obtain ⟨x,hx,rfl⟩:∃ x,ws[i]?=some x/\str x=v:=by simpa using hi
 exact h i x hx
theorem SAt.nxt {w w':World} {A:Option Addr} {ws:List (List UInt8)} (hv:SAt w A ws) (h:Nxt w w'):SAt w' A ws:=fun i v hi=>by
 obtain ⟨ad,e,hc⟩:=hv i v hi
 exact ⟨ad,e,zaB h hc⟩
theorem zfQ {n:FuncId} {caps:Array Value} {A:Option Addr} {c k:Nat} {vs:List Value} {E:List Int} {w:World} (hrun:∀ (args:Array Value) (w:World),Sem.run Tryz.prog (callFunc n args) w = .ok (.enter n args) w)
  (hv:VAt w A vs) (hk:vs.length=k) (hE:E.length=k) (hn:k < 2 ^ 40) (hcall:∀ (i:Nat) (v:Value) (x:Int),vs[i]?=some v -> E[i]?=some x -> ∀ wr,Nxt w wr -> Calls Tryz.prog n (#[v] ++ caps) wr (PRet wr (.int .i64 x))):
  Calls Tryz.prog 103 #[.slice A k c,.func (.func n) #[] caps] w (PRet w (.int .i64 (zay E))):=by
 have HV:=zc hv; have HK:=zc hk; have HE:=zc hE; have HN:=zc hn; have HC:=zc hcall
 clear hv hk hE hn hcall
 go_enter Tryz.func103,Tryz.ntmps103
 go_wp2_with fail
 go_loopw [10] (fun s10 wr=>∃ i:Nat,s10 = .int .i64 (i:Int)/\i <= k/\(∀ (j:Nat) (y:Int),j < i -> E[j]?=some y -> y=0)/\Nxt w wr) (fun s10 _=>k - (intOf s10).toNat)
 case atStart=>exact ⟨0,rfl,Nat.zero_le _,fun _ _ h=>absurd h (by omega),zaa⟩
 case round=>
  obtain ⟨i,rfl,hi,hok,hd⟩:=hrel
  have HO:=zc hok
  clear hok
  by_cases hin:i < k
  ·have hlt : decide ((i : Int) < (k : Int)) = true := by simp; omega
   have hlt':(i:Int) < (k:Int):=by omega
   have hadd:IntKind.i64.wrap ((i:Int)+1)=((i+1:Nat):Int):=by have:=HN.out; rw [zx]; omega
   obtain ⟨v,hv⟩:∃ v,vs[i]?=some v:=⟨vs[i]'(by rw [HK.out]; exact hin),zg _⟩
   obtain ⟨x,hx⟩:∃ x,E[i]?=some x:=⟨E[i]'(by rw [HE.out]; exact hin),zg _⟩
   obtain ⟨ad,rfl,k1⟩:=HV.out i v hv
   have k3:wr.cell? (ad.add i)=some v:=zaB hd k1
   have hc:=HC.out i v x hv hx wr hd
   have HCI:=zc hc; have HX:=zc hx
   clear hv hx k1 hc
   by_cases hxy:x=0
   ·subst hxy
    go_wp2_with fail
    refine zf HCI.out ?_
    rintro e w5 ⟨rfl,_⟩
    go_wp2_with fail
    go_roundw
    case rel=>exact ⟨i+1,rfl,hin,fun j y hj hy=>by
     rcases Nat.lt_or_ge j i with h | h
     ·exact HO.out j y h hy
     ·obtain rfl : j = i := by omega
      rw [HX.out] at hy; exact (zl hy).symm,zaa⟩
    case measure=>simp [intOf]; omega
   ·have hnx : (x != 0) = true := by simpa using hxy
    go_wp2_with fail
    refine zf HCI.out ?_
    rintro e w5 ⟨rfl,_⟩
    go_wp2_with fail
    go_ret
    exact ⟨by rw [zcK HO.out HX.out hxy]; rfl,zaa⟩
  ·have hlt : decide ((i : Int) < (k : Int)) = false := by simp; omega
   have hlt':¬ (i:Int) < (k:Int):=by omega
   go_wp2_with fail
   go_ret
   exact ⟨by rw [zcd (fun e he=>by
    obtain ⟨j,hj,rfl⟩:=List.getElem_of_mem he
    exact HO.out j _ (by have:=HE.out; omega) (zg hj))]; rfl,zaa⟩
theorem zje {n:FuncId} {caps:Array Value} {A:Option Addr} {c k:Nat} {vs:List Value} {E:List Int} {w:World} (hrun:∀ (args:Array Value) (w:World),Sem.run Tryz.prog (callFunc n args) w = .ok (.enter n args) w)
  (hv:VAt w A vs) (hk:vs.length=k) (hE:E.length=k) (hn:k < 2 ^ 40) (hcall:∀ (i:Nat) (v:Value) (x:Int),vs[i]?=some v -> E[i]?=some x -> ∀ wr,Nxt w wr -> Calls Tryz.prog n (#[v] ++ caps) wr (PRet wr (.int .i64 x))):
  Calls Tryz.prog 101 #[.slice A k c,.func (.func n) #[] caps] w (PRet w (.int .i64 (zay E))):=by
 have HV:=zc hv; have HK:=zc hk; have HE:=zc hE; have HN:=zc hn; have HC:=zc hcall
 clear hv hk hE hn hcall
 go_enter Tryz.func101,Tryz.ntmps101
 go_wp2_with fail
 go_loopw [10] (fun s10 wr=>∃ i:Nat,s10 = .int .i64 (i:Int)/\i <= k/\(∀ (j:Nat) (y:Int),j < i -> E[j]?=some y -> y=0)/\Nxt w wr) (fun s10 _=>k - (intOf s10).toNat)
 case atStart=>exact ⟨0,rfl,Nat.zero_le _,fun _ _ h=>absurd h (by omega),zaa⟩
 case round=>
  obtain ⟨i,rfl,hi,hok,hd⟩:=hrel
  have HO:=zc hok
  clear hok
  by_cases hin:i < k
  ·have hlt : decide ((i : Int) < (k : Int)) = true := by simp; omega
   have hlt':(i:Int) < (k:Int):=by omega
   have hadd:IntKind.i64.wrap ((i:Int)+1)=((i+1:Nat):Int):=by have:=HN.out; rw [zx]; omega
   obtain ⟨v,hv⟩:∃ v,vs[i]?=some v:=⟨vs[i]'(by rw [HK.out]; exact hin),zg _⟩
   obtain ⟨x,hx⟩:∃ x,E[i]?=some x:=⟨E[i]'(by rw [HE.out]; exact hin),zg _⟩
   obtain ⟨ad,rfl,k1⟩:=HV.out i v hv
   have k3:wr.cell? (ad.add i)=some v:=zaB hd k1
   have hc:=HC.out i v x hv hx wr hd
   have HCI:=zc hc; have HX:=zc hx
   clear hv hx k1 hc
   by_cases hxy:x=0
   ·subst hxy
    go_wp2_with fail
    refine zf HCI.out ?_
    rintro e w5 ⟨rfl,_⟩
    go_wp2_with fail
    go_roundw
    case rel=>exact ⟨i+1,rfl,hin,fun j y hj hy=>by
     rcases Nat.lt_or_ge j i with h | h
     ·exact HO.out j y h hy
     ·obtain rfl : j = i := by omega
      rw [HX.out] at hy; exact (zl hy).symm,zaa⟩
    case measure=>simp [intOf]; omega
   ·have hnx : (x != 0) = true := by simpa using hxy
    go_wp2_with fail
    refine zf HCI.out ?_
    rintro e w5 ⟨rfl,_⟩
    go_wp2_with fail
    go_ret
    exact ⟨by rw [zcK HO.out HX.out hxy]; rfl,zaa⟩
  ·have hlt : decide ((i : Int) < (k : Int)) = false := by simp; omega
   have hlt':¬ (i:Int) < (k:Int):=by omega
   go_wp2_with fail
   go_ret
   exact ⟨by rw [zcd (fun e he=>by
    obtain ⟨j,hj,rfl⟩:=List.getElem_of_mem he
    exact HO.out j _ (by have:=HE.out; omega) (zg hj))]; rfl,zaa⟩
def zrow (k:Nat):Array Value:=(List.replicate k (Value.slice none 0 0)).toArray
theorem zgU {k:Nat} (j:Nat) (u:Value) (hu:(List.replicate k (Value.slice none 0 0))[j]?=some u):NW u:=by
 rw [List.getElem?_replicate] at hu
 split at hu
 ·obtain rfl:=zl hu; infer_instance
 ·cases hu
structure Kept (t:TypeId) (Q:Nat -> Value -> World -> Prop):Prop where
 nxt:∀ {i v w w'},Q i v w -> Nxt w w' -> Q i v w'
 set:∀ {i v w g vs j x},Q i v w -> Blk w g t vs -> zaj vs j -> Q i v (w.setCell ⟨g,j,none⟩ x)
theorem zaR {w:World} {g i:Nat} {t:TypeId} {us:List Value} {x:Value} (h:Blk w g t us.toArray):Blk (w.setCell ⟨g,i,none⟩ x) g t (us.set i x).toArray:=
 Blk.set_ (k:=h) (h:=⟨by simp⟩)
theorem zhZ:(Tryz.prog.info? 153).map (fun i=>(i.zero,i.size,i.bytes))=some (some (.slice none 0 0),1,24):=by kernel_rfl
theorem zg4 (n:Nat) (hn:n < 2 ^ 40) (w:World):
  (Instr.makeSlice 151 (.int .i64 (n:Int)) (.int .i64 (n:Int))).run Tryz.prog w = .ok (.slice (some ⟨w.heap.size,0,none⟩) n n) (w.alloc (.cells (zrow n) 153)):=by
 obtain ⟨i0,hi0,hz0,hz1,hz2⟩:=info_parts zhZ
 rw [run_make (P:=Tryz.prog) w 151 153 i0 (.slice none 0 0) Tryz.underlying151 hi0 hz0 .i64 .i64 n n (by omega) (by omega) (by rw [hz2]; omega) (by omega)]
 have e:madeCells (Value.slice none 0 0).cells ((n:Int).toNat * i0.size)=zrow n:=by
  rw [hz1]
  simp only [zrow,madeCells,Value.cells,Int.toNat_natCast,Nat.mul_one]
  apply Array.ext_getElem?
  intro k
  by_cases hk:k < n
  ·simp [hk,Nat.mod_one]
  ·simp [hk]
 rw [e]
 simp
theorem zlJ {n:FuncId} {caps:Array Value} {A:Option Addr} {c k:Nat} {vs:List Value} {Q:Nat -> Value -> World -> Prop} {w:World} (hrun:∀ (args:Array Value) (w:World),Sem.run Tryz.prog (callFunc n args) w = .ok (.enter n args) w)
  (hv:VAt w A vs) (hk:vs.length=k) (hn:k < 2 ^ 40) (hQ:Kept 153 Q) (hcall:∀ (i:Nat) (v:Value),vs[i]?=some v -> ∀ wr,Nxt w wr -> Calls Tryz.prog n (#[v] ++ caps) wr (fun e w'=>∃ B m d,e = .returned (.slice B m d)/\Q i (.slice B m d) w'/\Nxt wr w')):
  Calls Tryz.prog 118 #[.slice A k c,.func (.func n) #[] caps] w (fun e w'=>∃ us:List Value,e = .returned (.slice (some ⟨w.heap.size,0,none⟩) k k)/\Blk w' w.heap.size 153 us.toArray/\us.length=k/\(∀ i u,us[i]?=some u -> Q i u w')/\Nxt w w'):=by
 have hmk:∀ w,(Instr.makeSlice 151 (.int .i64 (k:Int)) (.int .i64 (k:Int))).run Tryz.prog w = .ok (.slice (some ⟨w.heap.size,0,none⟩) k k) (w.alloc (.cells (zrow k) 153)):=zg4 k hn
 have HV:=zc hv; have HK:=zc hk; have HN:=zc hn; have HC:=zc hcall; have HQ:=zc hQ
 clear hv hk hn hcall hQ
 go_enter Tryz.func118,Tryz.ntmps118
 go_wp2_with fail
 have h0:Blk (w.alloc (.cells (zrow k) 153)) w.heap.size 153 (zrow k):=Blk.new
 have hb0:Nxt w (w.alloc (.cells (zrow k) 153)):=zaa
 generalize w.alloc (.cells (zrow k) 153)=W at *
 have H0:=zc h0; have HB0:=zc hb0
 clear h0 hb0 hmk
 go_loopw [13] (fun s13 wr=>∃ (i:Nat) (us:List Value),s13 = .int .i64 (i:Int)/\i <= k/\us.length=k/\Blk wr w.heap.size 153 us.toArray/\(∀ j u,j < i -> us[j]?=some u -> Q j u wr)/\(∀ (j:Nat) (u:Value),us[j]?=some u -> NW u)/\Nxt w wr) (fun s13 _=>k - (intOf s13).toNat)
 case atStart=>exact ⟨0,List.replicate k (Value.slice none 0 0),rfl,Nat.zero_le _,by simp,H0.out,fun _ _ h=>absurd h (by omega),zgU,HB0.out⟩
 case round=>
  obtain ⟨i,us,rfl,hi,hl,h1,hok,hnw,hd⟩:=hrel
  have HO:=zc hok; have HNW:=zc hnw
  clear hok hnw
  by_cases hin:i < k
  ·have hlt : decide ((i : Int) < (k : Int)) = true := by simp; omega
   have hlt':(i:Int) < (k:Int):=by omega
   have hadd:IntKind.i64.wrap ((i:Int)+1)=((i+1:Nat):Int):=by have:=HN.out; rw [zx]; omega
   obtain ⟨v,hv⟩:∃ v,vs[i]?=some v:=⟨vs[i]'(by rw [HK.out]; exact hin),zg _⟩
   obtain ⟨ad,rfl,k1⟩:=HV.out i v hv
   have k3:wr.cell? (ad.add i)=some v:=zaB hd k1
   have hc:=HC.out i v hv wr hd
   have HCI:=zc hc
   have HL:=zc hl
   clear hv k1 hc hl
   go_wp2_with fail
   refine zf HCI.out ?_
   rintro e w5 ⟨B,m,d,rfl,hq,hx⟩
   have h5:Blk w5 w.heap.size 153 us.toArray:=Blk.nxt
   have hfx:w5.frozen? ⟨w.heap.size,i,none⟩=false:=Blk.frozen (k:=h5)
   have hnw:zaj us.toArray i:=⟨fun x e=>(HNW.out i (us[i]'(by rw [HL.out]; exact hin)) (zg _)).out x (by simpa [zg (show i < us.length by rw [HL.out]; exact hin)] using e)⟩
   have hcx:w5.cell? ⟨w.heap.size,i,none⟩=some (us[i]'(by rw [HL.out]; exact hin)):=(Blk.cell (k:=h5) (i:=i)).trans (by simp)
   have hs:=zaR (i:=i) (x := .slice B m d) h5
   have hb:Nxt w (w5.setCell ⟨w.heap.size,i,none⟩ (.slice B m d)):=zaa
   have HS:=zc hs; have HB:=zc hb; have HX:=zc hx; have HQ5:=zc hq; have H5:=zc h5; have HN5:=zc hnw
   clear hs hb h1 hq hx hnw
   go_wp2_with fail
   go_roundw
   case rel=>exact ⟨i+1,_,rfl,hin,by simp [HL.out],HS.out,fun j u hj hu=>by
    rw [List.getElem?_set] at hu
    by_cases hij:i=j
    ·subst hij
     have hlt2:i < us.length:=by rw [HL.out]; exact hin
     simp [hlt2] at hu
     subst hu
     exact HQ.out.set HQ5.out H5.out HN5.out
    ·rw [if_neg hij] at hu
     exact HQ.out.set (HQ.out.nxt (HO.out j u (by omega) hu) HX.out) H5.out HN5.out,fun j u hu=>by
    rw [List.getElem?_set] at hu
    by_cases hij:i=j
    ·subst hij
     have hlt2:i < us.length:=by rw [HL.out]; exact hin
     simp [hlt2] at hu
     subst hu
     infer_instance
    ·rw [if_neg hij] at hu
     exact HNW.out j u hu,HB.out⟩
   case measure=>simp [intOf]; omega
  ·have hlt : decide ((i : Int) < (k : Int)) = false := by simp; omega
   have hlt':¬ (i:Int) < (k:Int):=by omega
   obtain rfl:i=k:=by omega
   have H1:=zc h1; have HD:=zc hd; have HL:=zc hl
   clear h1 hd hl
   go_wp2_with fail
   go_ret
   exact ⟨rfl,us,H1.out,HL.out,fun j u hu=>HO.out j u (by
    rcases Nat.lt_or_ge j us.length with h | h
    ·rw [HL.out] at h; exact h
    ·rw [List.getElem?_eq_none h] at hu; cases hu) hu,HD.out⟩
theorem zh0:(Tryz.prog.info? 136).map (fun i=>(i.zero,i.size,i.bytes))=some (some (.slice none 0 0),1,24):=by kernel_rfl
theorem zcE (n:Nat) (hn:n < 2 ^ 40) (w:World):
  (Instr.makeSlice 134 (.int .i64 (n:Int)) (.int .i64 (n:Int))).run Tryz.prog w = .ok (.slice (some ⟨w.heap.size,0,none⟩) n n) (w.alloc (.cells (zrow n) 136)):=by
 obtain ⟨i0,hi0,hz0,hz1,hz2⟩:=info_parts zh0
 rw [run_make (P:=Tryz.prog) w 134 136 i0 (.slice none 0 0) Tryz.underlying134 hi0 hz0 .i64 .i64 n n (by omega) (by omega) (by rw [hz2]; omega) (by omega)]
 have e:madeCells (Value.slice none 0 0).cells ((n:Int).toNat * i0.size)=zrow n:=by
  rw [hz1]
  simp only [zrow,madeCells,Value.cells,Int.toNat_natCast,Nat.mul_one]
  apply Array.ext_getElem?
  intro k
  by_cases hk:k < n
  ·simp [hk,Nat.mod_one]
  ·simp [hk]
 rw [e]
 simp
theorem zlL {n:FuncId} {caps:Array Value} {A:Option Addr} {c k:Nat} {vs:List Value} {Q:Nat -> Value -> World -> Prop} {w:World} (hrun:∀ (args:Array Value) (w:World),Sem.run Tryz.prog (callFunc n args) w = .ok (.enter n args) w)
  (hv:VAt w A vs) (hk:vs.length=k) (hn:k < 2 ^ 40) (hQ:Kept 136 Q) (hcall:∀ (i:Nat) (v:Value),vs[i]?=some v -> ∀ wr,Nxt w wr -> Calls Tryz.prog n (#[v] ++ caps) wr (fun e w'=>∃ B m d,e = .returned (.slice B m d)/\Q i (.slice B m d) w'/\Nxt wr w')):
  Calls Tryz.prog 105 #[.slice A k c,.func (.func n) #[] caps] w (fun e w'=>∃ us:List Value,e = .returned (.slice (some ⟨w.heap.size,0,none⟩) k k)/\Blk w' w.heap.size 136 us.toArray/\us.length=k/\(∀ i u,us[i]?=some u -> Q i u w')/\Nxt w w'):=by
 have hmk:∀ w,(Instr.makeSlice 134 (.int .i64 (k:Int)) (.int .i64 (k:Int))).run Tryz.prog w = .ok (.slice (some ⟨w.heap.size,0,none⟩) k k) (w.alloc (.cells (zrow k) 136)):=zcE k hn
 have HV:=zc hv; have HK:=zc hk; have HN:=zc hn; have HC:=zc hcall; have HQ:=zc hQ
 clear hv hk hn hcall hQ
 go_enter Tryz.func105,Tryz.ntmps105
 go_wp2_with fail
 have h0:Blk (w.alloc (.cells (zrow k) 136)) w.heap.size 136 (zrow k):=Blk.new
 have hb0:Nxt w (w.alloc (.cells (zrow k) 136)):=zaa
 generalize w.alloc (.cells (zrow k) 136)=W at *
 have H0:=zc h0; have HB0:=zc hb0
 clear h0 hb0 hmk
 go_loopw [13] (fun s13 wr=>∃ (i:Nat) (us:List Value),s13 = .int .i64 (i:Int)/\i <= k/\us.length=k/\Blk wr w.heap.size 136 us.toArray/\(∀ j u,j < i -> us[j]?=some u -> Q j u wr)/\(∀ (j:Nat) (u:Value),us[j]?=some u -> NW u)/\Nxt w wr) (fun s13 _=>k - (intOf s13).toNat)
 case atStart=>exact ⟨0,List.replicate k (Value.slice none 0 0),rfl,Nat.zero_le _,by simp,H0.out,fun _ _ h=>absurd h (by omega),zgU,HB0.out⟩
 case round=>
  obtain ⟨i,us,rfl,hi,hl,h1,hok,hnw,hd⟩:=hrel
  have HO:=zc hok; have HNW:=zc hnw
  clear hok hnw
  by_cases hin:i < k
  ·have hlt : decide ((i : Int) < (k : Int)) = true := by simp; omega
   have hlt':(i:Int) < (k:Int):=by omega
   have hadd:IntKind.i64.wrap ((i:Int)+1)=((i+1:Nat):Int):=by have:=HN.out; rw [zx]; omega
   obtain ⟨v,hv⟩:∃ v,vs[i]?=some v:=⟨vs[i]'(by rw [HK.out]; exact hin),zg _⟩
   obtain ⟨ad,rfl,k1⟩:=HV.out i v hv
   have k3:wr.cell? (ad.add i)=some v:=zaB hd k1
   have hc:=HC.out i v hv wr hd
   have HCI:=zc hc
   have HL:=zc hl
   clear hv k1 hc hl
   go_wp2_with fail
   refine zf HCI.out ?_
   rintro e w5 ⟨B,m,d,rfl,hq,hx⟩
   have h5:Blk w5 w.heap.size 136 us.toArray:=Blk.nxt
   have hfx:w5.frozen? ⟨w.heap.size,i,none⟩=false:=Blk.frozen (k:=h5)
   have hnw:zaj us.toArray i:=⟨fun x e=>(HNW.out i (us[i]'(by rw [HL.out]; exact hin)) (zg _)).out x (by simpa [zg (show i < us.length by rw [HL.out]; exact hin)] using e)⟩
   have hcx:w5.cell? ⟨w.heap.size,i,none⟩=some (us[i]'(by rw [HL.out]; exact hin)):=(Blk.cell (k:=h5) (i:=i)).trans (by simp)
   have hs:=zaR (i:=i) (x := .slice B m d) h5
   have hb:Nxt w (w5.setCell ⟨w.heap.size,i,none⟩ (.slice B m d)):=zaa
   have HS:=zc hs; have HB:=zc hb; have HX:=zc hx; have HQ5:=zc hq; have H5:=zc h5; have HN5:=zc hnw
   clear hs hb h1 hq hx hnw
   go_wp2_with fail
   go_roundw
   case rel=>exact ⟨i+1,_,rfl,hin,by simp [HL.out],HS.out,fun j u hj hu=>by
    rw [List.getElem?_set] at hu
    by_cases hij:i=j
    ·subst hij
     have hlt2:i < us.length:=by rw [HL.out]; exact hin
     simp [hlt2] at hu
     subst hu
     exact HQ.out.set HQ5.out H5.out HN5.out
    ·rw [if_neg hij] at hu
     exact HQ.out.set (HQ.out.nxt (HO.out j u (by omega) hu) HX.out) H5.out HN5.out,fun j u hu=>by
    rw [List.getElem?_set] at hu
    by_cases hij:i=j
    ·subst hij
     have hlt2:i < us.length:=by rw [HL.out]; exact hin
     simp [hlt2] at hu
     subst hu
     infer_instance
    ·rw [if_neg hij] at hu
     exact HNW.out j u hu,HB.out⟩
   case measure=>simp [intOf]; omega
  ·have hlt : decide ((i : Int) < (k : Int)) = false := by simp; omega
   have hlt':¬ (i:Int) < (k:Int):=by omega
   obtain rfl:i=k:=by omega
   have H1:=zc h1; have HD:=zc hd; have HL:=zc hl
   clear h1 hd hl
   go_wp2_with fail
   go_ret
   exact ⟨rfl,us,H1.out,HL.out,fun j u hu=>HO.out j u (by
    rcases Nat.lt_or_ge j us.length with h | h
    ·rw [HL.out] at h; exact h
    ·rw [List.getElem?_eq_none h] at hu; cases hu) hu,HD.out⟩
end Go.Proofs.YtombhkpniddceaaGreatDoor
