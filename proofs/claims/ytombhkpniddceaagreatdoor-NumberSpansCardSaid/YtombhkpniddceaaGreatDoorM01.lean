import Derived.Test.YtombhkpniddceaaGreatDoorM00
set_option maxHeartbeats 1600000
set_option linter.all false
namespace Go.Proofs.YtombhkpniddceaaGreatDoor
section
open Go.RowKit
theorem zbv:B64=2 ^ 64:=rfl
def shlW (x s:Nat):Nat:=x * 2 ^ s % B64
def shrW (x s:Nat):Nat:=x / 2 ^ s
theorem zed (x s:Nat):shlW x s < B64:=Nat.mod_lt _ zaE
theorem zg3 (x s:Nat):shrW x s <= x:=Nat.div_le_self _ _
theorem zjH {x s:Nat} (hs:s <= 64):shlW x s+B64 * shrW x (64 - s)=x * 2 ^ s:=by
 unfold shlW shrW
 have e:B64=2 ^ s * 2 ^ (64 - s):=by rw [<- Nat.pow_add,show s+(64 - s)=64 by omega]; rfl
 rw [e,zw x,Nat.mul_mod_mul_left,Nat.mul_assoc,<- Nat.mul_add,Nat.mod_add_div]
theorem zdF {x s:Nat} (hs:s <= 64):shlW x s=2 ^ s * (x % 2 ^ (64 - s)):=by
 unfold shlW
 have e:B64=2 ^ s * 2 ^ (64 - s):=by rw [<- Nat.pow_add,show s+(64 - s)=64 by omega]; rfl
 rw [e,zw x,Nat.mul_mod_mul_left]
theorem znW {y a s:Nat} (hy:y < 2 ^ s):y ||| 2 ^ s * a=y+2 ^ s * a:=by
 rw [Nat.or_comm,<- Nat.two_pow_add_eq_or_of_lt hy,Nat.add_comm]
theorem zb9 (x s:Nat):IntKind.u64.wrap ((x:Int) * 2 ^ s)=((shlW x s:Nat):Int):=by
 rw [IntKind.wrap_u64]
 unfold shlW
 rw [Int.natCast_emod,Int.natCast_mul,Int.natCast_pow]
 rfl
theorem zda (x s:Nat):(x:Int) / 2 ^ s=((shrW x s:Nat):Int):=by
 unfold shrW
 rw [Int.natCast_ediv,Int.natCast_pow]
 rfl
theorem zlr {y x s:Nat} (hy:y < 2 ^ s) (hs:s <= 64) (hy2:y < B64):bits .or .u64 (y:Int) (IntKind.u64.wrap ((x:Int) * 2 ^ s))=((y+shlW x s:Nat):Int):=by
 rw [zb9,bits_or_u64_nat y (shlW x s) hy2 (zed x s),zdF hs,znW hy]
theorem sum_shl_lt {y x s:Nat} (hy:y < 2 ^ s) (hs:s <= 64):y+shlW x s < B64:=by
 have e:B64=2 ^ s * 2 ^ (64 - s):=by rw [<- Nat.pow_add,show s+(64 - s)=64 by omega]; rfl
 rw [zdF hs]
 have h1:x % 2 ^ (64 - s) < 2 ^ (64 - s):=Nat.mod_lt _ (Nat.two_pow_pos _)
 have h2:2 ^ s * (x % 2 ^ (64 - s)+1) <= 2 ^ s * 2 ^ (64 - s):=Nat.mul_le_mul_left _ h1
 rw [Nat.mul_add,Nat.mul_one] at h2
 rw [e]
 omega
theorem zec {x s:Nat} (hx:x < B64) (hs:s <= 64):shrW x (64 - s) < 2 ^ s:=by
 unfold shrW
 rw [Nat.div_lt_iff_lt_mul (Nat.two_pow_pos _),<- Nat.pow_add,show s+(64 - s)=64 by omega]
 exact hx
theorem zkq {s y:Nat} (hs:s <= 64) (hy:y < 2 ^ s):y < B64:=Nat.lt_of_lt_of_le hy (by rw [zbv]; exact Nat.pow_le_pow_right (by omega) hs)
structure LeftSt (w0 w:World) (g:Nat) (us:List Nat) (n i:Nat):Prop where
 ex:∃ (qs:List Nat) (y:Nat),qs.length=i/\y < 2 ^ (n % 64)/\Buf w g (List.replicate (n / 64) 0 ++ qs ++ (y :: List.replicate (us.length - i) 0))/\val qs+B64 ^ i * y=val (us.take i) * 2 ^ (n % 64)
 below:Below w0.heap.size w0 w
 new:w0.heap.size <= g
theorem zkQ {X b vq vu p y x lo hi:Nat} (h1:vq+X * y=vu * p) (h2:lo+b * hi=x * p):vq+X * (y+lo)+X * b * hi=(vu+X * x) * p:=by
 have e:X * (lo+b * hi)=X * (x * p):=by rw [h2]
 rw [Nat.mul_add] at e
 rw [Nat.mul_add,Nat.add_mul,<- h1,Nat.mul_assoc X b hi,Nat.mul_assoc X x p]
 omega
section
variable {w0 w:World} {g:Nat} {us:List Nat} {n i:Nat}
theorem LeftSt.head (h:LeftSt w0 w g us n i) (hi:i < us.length):
  ∃ y:Nat,y < 2 ^ (n % 64)/\w.cell? ⟨g,i+n / 64,none⟩=some (.int .u64 (y:Int))/\w.frozen? ⟨g,i+n / 64,none⟩=false /\
   w.cell? ⟨g,i+n / 64+1,none⟩=some (.int .u64 0)/\w.frozen? ⟨g,i+n / 64+1,none⟩=false /\
   ∀ x:Nat,us[i]?=some x -> x < B64 -> ∀ w',w'=((w.setCell ⟨g,i+n / 64,none⟩ (.int .u64 ((y+shlW x (n % 64):Nat):Int))).setCell ⟨g,i+n / 64+1,none⟩ (.int .u64 ((shrW x (64 - n % 64):Nat):Int))).drew -> LeftSt w0 w' g us n (i+1):=by
 obtain ⟨⟨qs,y,hl,hy,hb,hv⟩,hbe,hnew⟩:=h
 have hlen:(List.replicate (n / 64) 0 ++ qs).length=i+n / 64:=by simp [hl]; omega
 have hr:List.replicate (us.length - i) 0=0 :: List.replicate (us.length - (i+1)) 0:=by rw [show us.length - i=(us.length - (i+1))+1 by omega,List.replicate_succ]
 refine ⟨y,hy,hb.cell (by rw [List.getElem?_append_right (by omega),hlen]; simp),hb.frozen _,hb.cell (x:=0) (by rw [List.getElem?_append_right (by omega),hlen,hr]; simp),hb.frozen _,?_⟩
 rintro x hx hxl w' rfl
 have hs:n % 64 <= 64:=by omega
 refine ⟨⟨qs ++ [y+shlW x (n % 64)],shrW x (64 - n % 64),by simp [hl],zec hxl hs,?_,?_⟩,?_,hnew⟩
 ·refine Buf.drew ?_
  have h1:=(hb.set_ (i+n / 64) (y+shlW x (n % 64)) (sum_shl_lt hy hs)).set_ (i+n / 64+1) (shrW x (64 - n % 64)) (Nat.lt_of_le_of_lt (zg3 _ _) hxl)
  rw [List.set_append_right _ _ (by omega),hlen,List.set_append_right _ _ (by omega),hlen,hr,Nat.sub_self,show i+n / 64+1 - (i+n / 64)=1 by omega] at h1
  simpa [List.append_assoc] using h1
 ·rw [zaG hx, val_append, hl, zbV, Nat.pow_succ]
  exact zkQ hv (zjH hs)
 ·exact ((hbe.setCell (p:=⟨g,i+n / 64,none⟩) hnew _).setCell (p:=⟨g,i+n / 64+1,none⟩) hnew _).drew
theorem LeftSt.done (h:LeftSt w0 w g us n us.length):∃ ws:List Nat,ws.length=us.length+n / 64+1/\Buf w g ws/\val ws=val us * 2 ^ n:=by
 obtain ⟨⟨qs,y,hl,hy,hb,hv⟩,hbe,hnew⟩:=h
 rw [Nat.sub_self,List.replicate_zero] at hb
 refine ⟨_,by simp [hl]; omega,hb,?_⟩
 have hz:∀ n,val (List.replicate n 0)=0:=fun n=>by induction n with | zero=>rfl | succ n ih=>simp [List.replicate_succ,val,ih]
 rw [List.append_assoc,val_append,hz,List.length_replicate,Nat.zero_add,val_append,hl,zbV,hv,List.take_length,zbv,<- Nat.pow_mul,zw,Nat.mul_assoc,<- Nat.pow_add]
 rw [show n % 64+64 * (n / 64)=n by omega]
end
theorem zkx (A:Option Addr) (c:Nat) (us:List Nat) (n:Nat) (w:World) (ha:WordsAt w A us) (hl:us.length <= MaxW) (h0:0 < us.length) (hn:n <= MaxW):
  Calls Tryz.prog 256 #[.slice A us.length c,.int .i64 (n:Int)] w fun e w'=>
   ∃ v,e = .returned v/\NatIs w' v (val us * 2 ^ n)/\Below w.heap.size w w':=by
 unfold MaxW at hl hn
 have hmk:∀ w:World,(Instr.makeSlice 96 (.int .i64 ((us.length:Int)+(n:Int) / 64+1)) (.int .i64 ((us.length:Int)+(n:Int) / 64+1))).run Tryz.prog w = .ok (.slice (some ⟨w.heap.size,0,none⟩) (us.length+n / 64+1) (us.length+n / 64+1)) (w.alloc (za6 (us.length+n / 64+1))):=zew (us.length+n / 64+1) (by omega)
 have hne:((us.length:Int) == 0)=false:=by simp; intro h; simp [h] at h0
 go_enter Tryz.func256,Tryz.ntmps256
 go_wp2_with fail
 go_loopw [25] (fun s wr=>∃ i:Nat,i <= us.length/\s = .int .i64 i/\LeftSt w wr w.heap.size us n i) (fun s _=>us.length - (intOf s).toNat)
 case atStart=>
  refine ⟨0,Nat.zero_le _,rfl,⟨[],0,rfl,Nat.two_pow_pos _,?_,by simp [val]⟩,(Below.refl _ _).alloc (zv _) _,zv _⟩
  have:=zc6 w (us.length+n / 64+1)
  rw [show us.length+n / 64+1=n / 64+(us.length+1) by omega,<- List.replicate_append_replicate,List.replicate_succ] at this
  simpa [show us.length+n / 64+1=n / 64+(us.length+1) by omega] using this
 case round=>
  obtain ⟨i,hi,rfl,hst⟩:=hrel
  by_cases hin:i < us.length
  ·obtain ⟨ad, x, rfl, _, hcx, hxl, HX⟩ := (ha.below hst.below).get hin
   obtain ⟨y,hy,hc0,hf0,hc1,hf1,hnext⟩:=hst.head hin
   have HN:=zc (hnext x HX.out hxl)
   clear hnext
   go_wp2_with fail
   go_region
   all_goals
    go_wp2_with fail
    rw [zlr hy (by omega) (zkq (by omega) hy),zda]
    go_roundw
    case rel=>exact ⟨i+1,by omega,by go_num,HN.out _ rfl⟩
    case measure=>simp [intOf]; omega
  ·obtain rfl : i = us.length := by omega
   obtain ⟨ws,hwl,hwb,hwv⟩:=hst.done
   have hbe:=hst.below
   have hw3:=hwb.words 0 ws.length
   rw [List.drop_zero,List.take_length] at hw3
   have c3:=zaK (some ⟨w.heap.size,0,none⟩) (us.length+n / 64+1) ws _ hw3 (by rw [hwl]; exact zv _) (by unfold maxLen; omega) _ hwv
   rw [hwl] at c3
   clear hwv hwl hw3 hwb hst
   go_wp2_with fail
   refine c3.mono ?_
   rintro e w3 ⟨v,rfl,hv,rfl⟩
   go_wp2_with fail
   go_ret
   exact ⟨v,rfl,hv,hbe⟩
theorem zeU (v:Value) (a n:Nat) (w:World) (h1:NatIs w v a) (ha:wl a <= MaxW) (hn:n <= MaxW):
  Calls Tryz.prog 256 #[v,.int .i64 (n:Int)] w fun e w'=>∃ v,e = .returned v/\NatIs w' v (a * 2 ^ n)/\Below w.heap.size w w':=by
 obtain ⟨A,c,rfl,h11,h12,h13⟩:=h1
 by_cases h0:a=0
 ·subst h0
  rw [zao] at *
  have hn':(n:Int) <= 2 ^ 40:=by unfold MaxW at hn; omega
  go_enter Tryz.func256,Tryz.ntmps256
  go_wp2_with fail
  go_ret
  exact ⟨_,rfl,by rw [Nat.zero_mul]; exact NatIs.zero _,Below.refl _ _⟩
 ·have := zkx A c _ n w h13 ha (by exact ze4 h0) hn
  rwa [zan] at this
end
section
open Go.RowKit
theorem zkN {w:World} {B n:Nat} {v:Value} {ws:List Nat} (hl:∀ x ∈ ws,x < B64) (h:w.ownsRow B 220 1 v n (cellsOf ws)):
  ws.length=n/\∃ A c,v = .slice A n c/\n <= c/\c <= maxLen/\(0 < n -> ∃ g,A=some ⟨g,0,none⟩/\B <= g/\Buf w g ws):=by
 obtain ⟨h1,h2⟩:=h
 have hn:ws.length=n:=by simpa [cellsOf] using h1
 refine ⟨hn,?_⟩
 rcases h2 with ⟨rfl,rfl⟩ | ⟨g,cap,cur,rfl,hg,hh,hc,hm,hs,ht⟩
 ·exact ⟨none,0,rfl,zv _,Nat.zero_le _,fun h=>absurd h (by omega)⟩
 ·refine ⟨_, cap, rfl, hc, hm, fun _ => ⟨g, rfl, hg, hl, cur.toList.drop n, ?_⟩⟩
  rw [hh,<- ht,Nat.mul_one,List.take_append_drop]
theorem zkK (ad:Addr) (c:Nat) (ws:List Nat) (w:World) (h:WordsAt w (some ad) ws) (hn:ws.length <= MaxW):
  Calls Tryz.prog 269 #[.slice (some ad) ws.length c] w fun e w'=>
   ∃ A' c',e = .returned (.slice A' ws.length c')/\ws.length <= c'/\c' <= maxLen/\Below w.heap.size w w'/\(0 < ws.length -> ∃ g,A'=some ⟨g,0,none⟩/\w.heap.size <= g/\Buf w' g ws):=by
 unfold MaxW at hn
 have hq:=fun w:World=>Lib.run_eql_slice_nil (P:=Tryz.prog) w 96 220 (some ad) ws.length c 0 0 Tryz.underlying96
 obtain ⟨i0,hi0,hz0,hz1,hz2⟩:=info_parts zhv
 have hown:(w.alloc (.cells #[] 220)).ownsRow w.heap.size 220 1 (.slice (some ⟨w.heap.size,0,none⟩) 0 0) 0 []:=
  ⟨rfl,.inr ⟨w.heap.size,0,#[],rfl,zv _,heap_alloc_new w _,zv _,Nat.zero_le _,rfl,rfl⟩⟩
 have HL:=zc h.lt
 have HC:Hid (∀ (j:Nat) u,(cellsOf ws)[j]?=some u -> (w.alloc (.cells #[] 220)).cell? (ad.add j)=some u):=by
  intro j v hv
  simp only [cellsOf,List.getElem?_map,Option.map_eq_some_iff] at hv
  obtain ⟨x,hj,rfl⟩:=hv
  obtain ⟨ad',e,_,hc⟩:=(h.alloc (.cells #[] 220)).at_ j x hj
  cases e
  exact hc
 go_enter Tryz.func269,Tryz.ntmps269
 go_wp2_with (at_builtin; refine wpList_append_own _ rfl (.tmp 5) (.tmp 6) _ rfl w.heap.size 220 i0 _ 1 8 Tryz.underlying96 hi0 hz0 hz1 hz2 rfl (by decide) _ _ _ rfl hown ad ws.length c (cellsOf ws) rfl (by simp [cellsOf]) HC.out (zdO ws) (by unfold maxLen; omega) (by omega) (by simp) ?_; intro v1 w1 hown1 hgrow1 _)
 rw [Nat.zero_add,List.nil_append] at hown1
 obtain ⟨_,A,c',rfl,h1,h2,h3⟩:=zkN HL.out hown1
 have hbe:Below w.heap.size w w1:=((Below.refl _ _).alloc (zv _) _).grown hgrow1 (by simp) (by rintro k hk; cases hk; exact zv _)
 clear hown1 hgrow1 HC hown
 go_wp2_with fail
 go_ret
 exact ⟨A,c',rfl,h1,h2,hbe,h3⟩
theorem ziB (A:Option Addr) (c:Nat) (ws:List Nat) (w:World) (h:WordsAt w A ws) (hn:ws.length <= MaxW):
  Calls Tryz.prog 269 #[.slice A ws.length c] w fun e w'=>
   ∃ A' c',e = .returned (.slice A' ws.length c')/\ws.length <= c'/\c' <= maxLen/\Below w.heap.size w w'/\(0 < ws.length -> ∃ g,A'=some ⟨g,0,none⟩/\w.heap.size <= g/\Buf w' g ws):=by
 rcases A with _ | ad
 ·have h0:ws=[]:=by
   rcases ws with _ | ⟨x,r⟩
   ·rfl
   ·obtain ⟨_, _, e, _⟩ := h.get (k := 0) (by simp)
    cases e
  subst h0
  have hq:=fun w:World=>Lib.run_eql_slice_nil (P:=Tryz.prog) w 96 220 none 0 c 0 0 Tryz.underlying96
  go_enter Tryz.func269,Tryz.ntmps269
  go_wp2_with fail
  go_ret
  exact ⟨none,0,rfl,zv _,Nat.zero_le _,Below.refl _ _,fun h=>absurd h (by simp)⟩
 ·exact zkK ad c ws w h hn
end
def W32:Nat:=4294967296
structure Guess (y1 y0 u d q r:Nat):Prop where
 eq:q * y1+r=u
 ge:(u * W32+d) / (y1 * W32+y0) <= q
theorem zfN {y1 y0 u d:Nat} (h1:0 < y1) (hd:d < W32):Guess y1 y0 u d (u / y1) (u % y1):=by
 refine ⟨by rw [zw]; exact Nat.div_add_mod u y1,?_⟩
 rw [Nat.le_div_iff_mul_le h1]
 have h:=Nat.div_mul_le_self (u * W32+d) (y1 * W32+y0)
 generalize (u * W32+d) / (y1 * W32+y0)=q at *
 rw [Nat.mul_add,<- Nat.mul_assoc] at h
 have h2:q * y1 * W32 < (u+1) * W32:=by rw [Nat.add_mul]; omega
 have:=Nat.lt_of_mul_lt_mul_right h2
 omega
theorem zj5 {y1 y0 u d:Nat} (hu:u < y1 * W32+y0) (hd:d < W32):(u * W32+d) / (y1 * W32+y0) < W32:=by
 rw [Nat.div_lt_iff_lt_mul (by omega)]
 have:(u+1) * W32 <= (y1 * W32+y0) * W32:=Nat.mul_le_mul_right _ hu
 rw [Nat.add_mul] at this
 rw [zw W32]
 omega
theorem zgK {y1 y0 u d q r:Nat} (g:Guess y1 y0 u d q r):q * y0 > W32 * r+d ↔ q * (y1 * W32+y0) > u * W32+d:=by
 rw [<- g.eq,Nat.mul_add,Nat.add_mul,Nat.mul_assoc,zw r W32]
 omega
theorem zdf {y1 y0 u d q r:Nat} (g:Guess y1 y0 u d q r) (h0:0 < y1) (hu:u < y1 * W32+y0) (hd:d < W32) (h:W32 <= q ∨ q * y0 > W32 * r+d):
  0 < q/\Guess y1 y0 u d (q - 1) (r+y1):=by
 have hlt:=zj5 hu hd
 have hY:0 < y1 * W32+y0:=by omega
 have hq:(u * W32+d) / (y1 * W32+y0) < q:=by
  rcases h with h | h
  ·omega
  ·rw [Nat.div_lt_iff_lt_mul hY]
   exact (zgK g).1 h
 have hpos:0 < q:=Nat.lt_of_le_of_lt (Nat.zero_le _) hq
 refine ⟨hpos,?_,by omega⟩
 obtain ⟨p,rfl⟩:∃ p,q=p+1:=⟨q - 1,by omega⟩
 have:=g.eq
 rw [Nat.add_mul,Nat.one_mul] at this
 rw [Nat.add_sub_cancel]
 omega
theorem zcz {y1 y0 u d q r:Nat} (g:Guess y1 y0 u d q r) (hY:0 < y1 * W32+y0) (h:¬ q * y0 > W32 * r+d):q=(u * W32+d) / (y1 * W32+y0):=by
 have h1:¬ q * (y1 * W32+y0) > u * W32+d:=fun h2=>h ((zgK g).2 h2)
 have:q <= (u * W32+d) / (y1 * W32+y0):=by rw [Nat.le_div_iff_mul_le hY]; omega
 have:=g.ge
 omega
theorem zdR {y1 y0 u d q r:Nat} (g:Guess y1 y0 u d q r) (hu:u < y1 * W32+y0) (hy0:y0 < W32) (hr:W32 <= r):q < W32/\¬ q * y0 > W32 * r+d:=by
 have he:=g.eq
 have hq:q < W32:=by
  rcases Nat.lt_or_ge q W32 with h | h
  ·exact h
  ·have : W32 * y1 <= q * y1 := Nat.mul_le_mul_right _ h
   rw [zw W32] at this
   omega
 refine ⟨hq,?_⟩
 have h1:q * y0 <= W32 * W32:=Nat.mul_le_mul (Nat.le_of_lt hq) (Nat.le_of_lt hy0)
 have h2:W32 * W32 <= W32 * r:=Nat.mul_le_mul_left _ hr
 omega
theorem zkh {u d1 d0 Y q1 q0:Nat} (hY:0 < Y) (h1:q1=(u * W32+d1) / Y) (h0:q0=((u * W32+d1 - q1 * Y) * W32+d0) / Y):
  q1 * W32+q0=(u * W32 * W32+d1 * W32+d0) / Y/\(u * W32+d1 - q1 * Y) * W32+d0 - q0 * Y=(u * W32 * W32+d1 * W32+d0) % Y:=by
 have e1:q1 * Y+(u * W32+d1) % Y=u * W32+d1:=by rw [h1,zw]; exact Nat.div_add_mod _ _
 have m1:(u * W32+d1) % Y=u * W32+d1 - q1 * Y:=by omega
 rw [<- m1] at h0 ⊢
 generalize hr:(u * W32+d1) % Y=r at *
 have e0:q0 * Y+(r * W32+d0) % Y=r * W32+d0:=by rw [h0,zw]; exact Nat.div_add_mod _ _
 have hm:(r * W32+d0) % Y < Y:=Nat.mod_lt _ hY
 have hall:u * W32 * W32+d1 * W32+d0=(r * W32+d0) % Y+Y * (q1 * W32+q0):=by
  have:(q1 * Y+r) * W32=(u * W32+d1) * W32:=by rw [e1]
  rw [Nat.add_mul,Nat.add_mul] at this
  have e3:Y * (q1 * W32+q0)=q1 * Y * W32+q0 * Y:=by rw [Nat.mul_add,<- Nat.mul_assoc,zw Y q1,zw Y q0]
  rw [e3]
  omega
 rw [hall,Nat.add_mul_div_left _ _ hY,Nat.add_mul_mod_self_left,Nat.mod_mod,Nat.div_eq_of_lt hm]
 omega
section
open Go.RowKit
structure DiffSt (w0 w:World) (g:Nat) (xs bs:List Nat) (k cy:Nat):Prop where
 ex:∃ ys:List Nat,ys.length=k/\Buf w g ([] ++ ys ++ xs.drop k ++ [])/\val ys+val (bs.take k)=val (xs.take k)+B64 ^ k * cy
 cy1:cy <= 1
 only:Only g w0 w
section
variable {w0 w:World} {g:Nat} {xs bs:List Nat} {k cy:Nat}
theorem DiffSt.start (hw:Buf w g xs):DiffSt w w g xs bs 0 0:=⟨⟨[],rfl,by simpa using hw,by simp [val]⟩,by omega,Only.refl _ _⟩
theorem DiffSt.head (h:DiffSt w0 w g xs bs k cy) (hk:k < xs.length):
  ∃ x:Nat,x < B64/\Hid (xs[k]?=some x)/\w.cell? ⟨g,k,none⟩=some (.int .u64 (x:Int))/\w.frozen? ⟨g,k,none⟩=false:=by
 obtain ⟨⟨ys,hyl,hb,hv⟩,h1,ho⟩:=h
 have:=zhn hb hyl hk
 simpa using this
theorem DiffSt.next (h:DiffSt w0 w g xs bs k cy) {x y:Nat} (hx:xs[k]?=some x) (hxl:x < B64) (hyl:y < B64) (hy:val (bs.take (k+1))=val (bs.take k)+B64 ^ k * y):
  DiffSt w0 (w.setCell ⟨g,k,none⟩ (.int .u64 ((subLo x y cy:Nat):Int))) g xs bs (k+1) (subHi x y cy):=by
 obtain ⟨⟨ys,hl,hb,hv⟩,h1,ho⟩:=h
 obtain ⟨hk,_⟩:=zh.1 hx
 have hb':=ze1 hb hl hk (zg1 x y cy)
 rw [List.length_nil,Nat.zero_add] at hb'
 refine ⟨⟨ys ++ [subLo x y cy],by simp [hl],hb',?_⟩,zmP _ _ _,ho.set_ _ _⟩
 rw [val_append,hl,zaG hx,hy,Nat.pow_succ,zbV]
 have h2:=znR hxl hyl h1
 have:=ziG (f:=1) (X:=B64 ^ k) (b:=B64) (vy:=val ys) (vx:=val (xs.take k)) (vb:=val (bs.take k)) (lo:=subLo x y cy) (hi:=subHi x y cy) (x:=x) (y:=y) (c:=cy) (by omega) (by omega)
 rw [Nat.mul_one] at this
 exact this
theorem DiffSt.done (h:DiffSt w0 w g xs bs k cy) (hk:k <= xs.length) (hm:bs.length <= k) (hq:k < xs.length -> cy=0) (hle:val bs <= val xs):
  ∃ ys:List Nat,ys.length=xs.length/\Buf w g ys/\Only g w0 w/\val ys=val xs - val bs:=by
 obtain ⟨⟨ys,hl,hb,hv⟩,h1,ho⟩:=h
 refine ⟨ys ++ xs.drop k,by simp [hl]; omega,by simpa using hb,ho,?_⟩
 rw [List.take_of_length_le hm] at hv
 rw [val_append,hl]
 have e:val xs=val (xs.take k)+B64 ^ k * val (xs.drop k):=by
  conv=>lhs; rw [<- List.take_append_drop k xs,val_append]
  rw [List.length_take,Nat.min_eq_left hk]
 have h0:cy=0:=by
  rcases Nat.lt_or_ge k xs.length with hlt | hge
  ·exact hq hlt
  ·have hkk : k = xs.length := by omega
   rw [hkk,List.take_length] at hv
   have hyb:=zcS ys (fun z hz=>hb.lt z (by simp [hz]))
   rw [hl,hkk] at hyb
   rcases Nat.eq_zero_or_pos cy with h0 | h0
   ·exact h0
   ·have : cy = 1 := by omega
    rw [this,Nat.mul_one] at hv
    omega
 rw [h0,Nat.mul_zero] at hv
 omega
end
theorem zi2 (v1 v2:Value) (a b:Nat) (w:World) (h1:NatIs w v1 a) (h2:NatIs w v2 b) (ha:wl a <= MaxW) (hle:b <= a):
  Calls Tryz.prog 241 #[v1,v2] w fun e w'=>∃ v,e = .returned v/\NatIs w' v (a - b)/\Below w.heap.size w w':=by
 obtain ⟨A,c,rfl,h11,h12,h13⟩:=h1
 obtain ⟨B,d,rfl,h21,h22,h23⟩:=h2
 have hlen:(limbs b).length <= (limbs a).length:=zar hle
 have hva:=zan a
 have hvb:=zan b
 generalize hxs:limbs a=xs at *
 generalize hbs:limbs b=bs at *
 rw [<- hva,<- hvb]
 rw [<- hva,<- hvb] at hle
 rw [wl,hxs] at ha
 have HLE:=zc hle
 clear hva hvb hxs hbs hle a b
 unfold MaxW at ha
 have hcl:=ziB A c xs w h13 (by unfold MaxW; omega)
 rcases Nat.eq_zero_or_pos xs.length with h0 | h0
 ·obtain rfl : xs = [] := List.eq_nil_of_length_eq_zero h0
  obtain rfl:bs=[]:=List.eq_nil_of_length_eq_zero (by simpa using hlen)
  go_enter Tryz.func241,Tryz.ntmps241
  go_wp2_with fail
  refine hcl.mono ?_
  rintro e w1 ⟨A',c',rfl,hc1,hc2,hbe,_⟩
  clear hcl
  go_wp2_with fail
  go_loopw [6,13] (fun s i wr=>s = .int .u64 0/\i = .int .i64 0/\wr=w1) (fun _ _ _=>0)
  case atStart=>exact ⟨rfl,rfl,rfl⟩
  case round=>
   obtain ⟨rfl,rfl,rfl⟩:=hrel
   go_wp2_with fail
   have c3:=zaK A' c' [] wr (WordsAt.nil _ _) hc1 hc2 0 rfl
   refine c3.mono ?_
   rintro e w3 ⟨v,rfl,hv,rfl⟩
   go_wp2_with fail
   go_ret
   exact ⟨v,rfl,by simpa [val] using hv,hbe⟩
 ·have hbne := h23.ne_ (zv _)
  go_enter Tryz.func241,Tryz.ntmps241
  go_wp2_with fail
  refine hcl.mono ?_
  rintro e w1 ⟨A',c',rfl,hc1,hc2,hbe,hx⟩
  obtain ⟨g,rfl,hg,hbuf⟩:=hx h0
  clear hcl hx
  have hbne:=h23.ne_ hg
  have hb1:=h23.below hbe
  unfold maxLen at hc2
  go_wp2_with fail
  go_loopw [6,13] (fun s i wr=>∃ k cy:Nat,k <= xs.length/\i = .int .i64 k/\s = .int .u64 (cy:Int)/\DiffSt w1 wr g xs bs k cy) (fun _ i _=>xs.length - (intOf i).toNat)
  case atStart=>exact ⟨0,0,Nat.zero_le _,rfl,rfl,DiffSt.start hbuf⟩
  case round=>
   obtain ⟨k,cy,hk,rfl,rfl,hst⟩:=hrel
   have hcy:=hst.cy1
   by_cases hgo:k < xs.length/\(k < bs.length ∨ cy ≠ 0)
   ·obtain ⟨hkn, hor⟩ := hgo
    obtain ⟨x,hx,HX,hc0,hf0⟩:=hst.head hkn
    by_cases hkm:k < bs.length
    ·obtain ⟨ad, y, rfl, hadl, hcy', hylt, HYY⟩ := (hst.only.words hb1 hbne).get hkm
     clear hor
     go_wp2_with (simp only [sub64 _ _ _ hcy])
     go_roundw
     case rel=>exact ⟨k+1,_,by omega,by go_num,rfl,hst.next HX.out hx hylt (zaG HYY.out)⟩
     case measure=>simp [intOf]; omega
    ·have hz : cy ≠ 0 := by omega
     have hz':((cy:Int) == 0)=false:=by simp [hz]
     clear hor hz
     go_wp2_with (simp only [zqY _ _ hcy])
     go_roundw
     case rel=>exact ⟨k+1,_,by omega,by go_num,rfl,hst.next HX.out hx zaE (by rw [List.take_of_length_le (by omega),List.take_of_length_le (by omega)]; simp)⟩
     case measure=>simp [intOf]; omega
   ·have hkm : bs.length <= k := by omega
    have hz:k < xs.length -> cy=0:=by omega
    obtain ⟨ys,hyl,hyb,ho,hv⟩:=hst.done hk hkm hz HLE.out
    have hw3:=hyb.words 0 xs.length
    rw [List.drop_zero,<- hyl,List.take_length] at hw3
    have c3:=zaK (some ⟨g,0,none⟩) c' ys _ hw3 (by rw [hyl]; exact hc1) (by unfold maxLen; omega) _ hv
    rw [hyl] at c3
    have hfin:Below w.heap.size w wr:=hbe.trans (ho.below hg)
    clear hv hyl hw3 hyb hst hgo
    by_cases hkn:k < xs.length
    ·obtain rfl := hz hkn
     clear hz
     go_wp2_with fail
     refine c3.mono ?_
     rintro e w3 ⟨v,rfl,hv,rfl⟩
     go_wp2_with fail
     go_ret
     exact ⟨v,rfl,hv,hfin⟩
    ·clear hz
     go_wp2_with fail
     refine c3.mono ?_
     rintro e w3 ⟨v,rfl,hv,rfl⟩
     go_wp2_with fail
     go_ret
     exact ⟨v,rfl,hv,hfin⟩
end
section
open Go.RowKit
theorem WordsAt.drop {w:World} {ad:Addr} {ws:List Nat} (h:WordsAt w (some ad) ws) (q:Nat):WordsAt w (some (ad.add q)) (ws.drop q):=
 ⟨fun x hx => h.lt x (List.mem_of_mem_drop hx), fun j u hu => by
  rw [List.getElem?_drop] at hu
  obtain ⟨ad',e,hl,hc⟩:=h.at_ (q+j) u hu
  cases e
  exact ⟨_,rfl,by rw [zaw]; exact hl,by rw [zkR]; exact hc⟩⟩
def rWord (x y s:Nat):Nat:=shrW x s+shlW y (64 - s)
theorem zmX {x y s:Nat} (hx:x < B64) (hs:s <= 64):rWord x y s < B64:=
 sum_shl_lt (by have:=zec (s:=64 - s) hx (by omega); rwa [show 64 - (64 - s)=s by omega] at this) (by omega)
theorem or_shr {x y s:Nat} (hx:x < B64) (hs:s <= 64):bits .or .u64 ((x:Int) / 2 ^ s) (IntKind.u64.wrap ((y:Int) * 2 ^ (64 - s)))=((rWord x y s:Nat):Int):=by
 rw [zda]
 exact zlr (by have:=zec (s:=64 - s) hx (by omega); rwa [show 64 - (64 - s)=s by omega] at this) (by omega) (Nat.lt_of_le_of_lt (zg3 _ _) hx)
theorem or_shr0 {x s:Nat} (hx:x < B64):bits .or .u64 ((x:Int) / 2 ^ s) 0=((rWord x 0 s:Nat):Int):=by
 rw [zda]
 have:=bits_or_u64_nat (shrW x s) 0 (Nat.lt_of_le_of_lt (zg3 _ _) hx) zaE
 simpa [rWord,shlW] using this
theorem zmY {x z s:Nat} (hs:s <= 64):(x+B64 * z) / 2 ^ s=rWord x (z % B64) s+B64 * (z / 2 ^ s):=by
 have e:B64=2 ^ s * 2 ^ (64 - s):=by rw [<- Nat.pow_add,show s+(64 - s)=64 by omega]; rfl
 have h1:(x+B64 * z) / 2 ^ s=x / 2 ^ s+2 ^ (64 - s) * z:=by rw [e,Nat.mul_assoc,Nat.add_mul_div_left _ _ (Nat.two_pow_pos s)]
 have h2:shlW (z % B64) (64 - s)=2 ^ (64 - s) * (z % 2 ^ s):=by
  rw [zdF (by omega),show 64 - (64 - s)=s by omega,e,Nat.mod_mul_right_mod]
 rw [h1,rWord,h2,shrW]
 have h3:=Nat.mod_add_div z (2 ^ s)
 have h4:2 ^ (64 - s) * (z % 2 ^ s+2 ^ s * (z / 2 ^ s))=2 ^ (64 - s) * z:=by rw [h3]
 rw [Nat.mul_add,<- Nat.mul_assoc,zw (2 ^ (64 - s)) (2 ^ s),<- e] at h4
 omega
structure RightSt (w0 w:World) (g:Nat) (xs:List Nat) (s i:Nat):Prop where
 ex:∃ ys:List Nat,ys.length=i/\Buf w g ([] ++ ys ++ xs.drop i ++ [])/\val ys+B64 ^ i * (val (xs.drop i) / 2 ^ s)=val xs / 2 ^ s
 below:Below w0.heap.size w0 w
 new:w0.heap.size <= g
theorem val_mod (l:List Nat) (h:∀ x ∈ l,x < B64):val l % B64=l.getD 0 0:=by
 rcases l with _ | ⟨x,r⟩
 ·simp [val]
 ·simp [val,Nat.mod_eq_of_lt (h x List.mem_cons_self)]
section
variable {w0 w:World} {g:Nat} {xs:List Nat} {s i:Nat}
theorem RightSt.head (h:RightSt w0 w g xs s i) (hi:i < xs.length) (hs:s <= 64) (hxs:∀ z ∈ xs,z < B64):
  ∃ x y:Nat,x < B64/\y < B64/\w.cell? ⟨g,i,none⟩=some (.int .u64 (x:Int))/\w.frozen? ⟨g,i,none⟩=false /\
   (i+1 < xs.length -> w.cell? ⟨g,i+1,none⟩=some (.int .u64 (y:Int)))/\(¬ i+1 < xs.length -> y=0) /\
   ∀ w',w'=(w.setCell ⟨g,i,none⟩ (.int .u64 ((rWord x y s:Nat):Int))).drew -> RightSt w0 w' g xs s (i+1):=by
 obtain ⟨⟨ys,hl,hb,hv⟩,hbe,hnew⟩:=h
 have hx:=zg hi
 have hxl:xs[i] < B64:=hxs _ (List.getElem_mem hi)
 have hd:xs.drop i=xs[i] :: xs.drop (i+1):=List.drop_eq_getElem_cons hi
 have e0:([] ++ ys ++ xs.drop i ++ [])[i]?=some xs[i]:=by
  rw [hd]
  simp [hl,-List.getElem_cons_drop]
 have hdl:∀ z ∈ xs.drop (i+1),z < B64:=fun z hz=>hxs z (List.mem_of_mem_drop hz)
 have hym:=val_mod _ hdl
 refine ⟨xs[i],val (xs.drop (i+1)) % B64,hxl,Nat.mod_lt _ zaE,hb.cell e0,hb.frozen _,fun h1=>?_,fun h1=>?_,?_⟩
 ·refine hb.cell (i := i + 1) ?_
  rw [hym,hd]
  have e1:xs.drop (i+1)=xs[i+1] :: xs.drop (i+1+1):=List.drop_eq_getElem_cons h1
  rw [e1]
  simp [hl,-List.getElem_cons_drop]
 ·rw [List.drop_of_length_le (by omega)]
  rfl
 ·rintro w' rfl
  refine ⟨⟨ys ++ [rWord xs[i] (val (xs.drop (i+1)) % B64) s],by simp [hl],?_,?_⟩,?_,hnew⟩
  ·have := ze1 hb hl hi (zmX (y := val (xs.drop (i + 1)) % B64) hxl hs)
   rw [List.length_nil,Nat.zero_add] at this
   exact this.drew
  ·rw [val_append,hl,zbV,Nat.pow_succ,<- hv,hd,val,zmY hs,Nat.mul_add,<- Nat.mul_assoc,Nat.add_assoc]
  ·exact (hbe.setCell (p:=⟨g,i,none⟩) hnew _).drew
end
theorem ziT (ad:Addr) (c:Nat) (us:List Nat) (n:Nat) (w:World) (ha:WordsAt w (some ad) us) (hl:us.length <= MaxW) (hc:us.length <= c) (h0:n / 64 < us.length) (hn:n <= 2 ^ 60):
  Calls Tryz.prog 266 #[.slice (some ad) us.length c,.int .i64 (n:Int)] w fun e w'=>
   ∃ v,e = .returned v/\NatIs w' v (val us / 2 ^ n)/\Below w.heap.size w w':=by
 have hcl:=ziB (some (ad.add (n / 64))) (c - n / 64) (us.drop (n / 64)) w (ha.drop _) (by rw [List.length_drop]; omega)
 rw [List.length_drop] at hcl
 have hxs:∀ z ∈ us.drop (n / 64),z < B64:=fun z hz=>ha.lt z (List.mem_of_mem_drop hz)
 have hval:val us / 2 ^ n=val (us.drop (n / 64)) / 2 ^ (n % 64):=by
  conv=>lhs; rw [<- List.take_append_drop (n / 64) us,val_append]
  rw [List.length_take,Nat.min_eq_left (by omega)]
  have e:(2:Nat) ^ n=B64 ^ (n / 64) * 2 ^ (n % 64):=by rw [zbv,<- Nat.pow_mul,<- Nat.pow_add,show 64 * (n / 64)+n % 64=n by omega]
  have h1:=zcS (us.take (n / 64)) (fun z hz=>ha.lt z (List.mem_of_mem_take hz))
  rw [List.length_take,Nat.min_eq_left (by omega)] at h1
  rw [e,<- Nat.div_div_eq_div_mul,Nat.add_mul_div_left _ _ (Nat.pow_pos zaE),Nat.div_eq_of_lt h1,Nat.zero_add]
 have hxl:(us.drop (n / 64)).length=us.length - n / 64:=List.length_drop
 have HXL:=zc hxl; have HVAL:=zc hval; have HXS:=zc hxs
 clear hxl hval hxs
 unfold MaxW at hl
 have hcne:¬ c=n / 64:=by omega
 go_enter Tryz.func266,Tryz.ntmps266
 go_wp2_with fail
 refine hcl.mono ?_
 rintro e w1 ⟨A',c',rfl,hc1,hc2,hbe,hx⟩
 obtain ⟨g,rfl,hg,hbuf⟩:=hx (by omega)
 clear hcl hx
 have hml:us.length - n / 64 <= us.length:=Nat.sub_le _ _
 generalize us.length - n / 64=m at *
 generalize us.drop (n / 64)=xs at *
 have hxm:=HXL.out
 unfold maxLen at hc2
 have hs64:n % 64 <= 64:=by omega
 have hst0:RightSt w w1 g xs (n % 64) 0:=⟨⟨[],rfl,by simpa using hbuf,by simp [val]⟩,hbe,hg⟩
 clear hbuf
 have HXM:=zc hxm
 clear hxm
 go_wp2_with fail
 go_loopw [24] (fun s wr=>∃ i:Nat,i <= m/\s = .int .i64 i/\RightSt w wr g xs (n % 64) i) (fun s _=>m - (intOf s).toNat)
 case atStart=>exact ⟨0,Nat.zero_le _,rfl,hst0⟩
 case round=>
  obtain ⟨i,hi,rfl,hst⟩:=hrel
  by_cases hin:i < m
  ·obtain ⟨x, y, hxl, hyl, hc0, hf0, hca, hcb, hnext⟩ := hst.head (by rw [HXM.out]; exact hin) hs64 HXS.out
   have HN:=zc hnext
   clear hnext
   rw [HXM.out] at hca hcb
   by_cases hi1:i+1 < m
   ·have hc1' := hca hi1
    clear hca hcb
    go_wp2_with fail
    go_region
    all_goals
     go_wp2_with fail
     rw [or_shr hxl hs64]
     go_roundw
     case rel=>exact ⟨i+1,by omega,by go_num,HN.out _ rfl⟩
     case measure=>simp [intOf]; omega
   ·obtain rfl := hcb hi1
    clear hca hcb
    go_wp2_with fail
    go_region
    all_goals
     go_wp2_with fail
     rw [or_shr0 hxl]
     go_roundw
     case rel=>exact ⟨i+1,by omega,by go_num,HN.out _ rfl⟩
     case measure=>simp [intOf]; omega
  ·obtain rfl : i = m := by omega
   obtain ⟨⟨ys,hyl,hyb,hv⟩,hbe2,_⟩:=hst
   rw [List.drop_of_length_le (by rw [HXM.out]; exact zv _)] at hyb hv
   have hyb':Buf wr g ys:=by simpa using hyb
   have hv':val ys=val us / 2 ^ n:=by rw [HVAL.out,<- hv]; simp [val]
   have hw3:=hyb'.words 0 ys.length
   rw [List.drop_zero,List.take_length] at hw3
   have c3:=zaK (some ⟨g,0,none⟩) c' ys _ hw3 (by rw [hyl]; exact hc1) (by unfold maxLen; omega) _ hv'
   rw [hyl] at c3
   clear hv hv' hyl hw3 hyb hyb'
   go_wp2_with fail
   refine c3.mono ?_
   rintro e w3 ⟨v,rfl,hv,rfl⟩
   go_wp2_with fail
   go_ret
   exact ⟨v,rfl,hv,hbe2⟩
theorem zhR (v:Value) (a n:Nat) (w:World) (h1:NatIs w v a) (ha:wl a <= MaxW) (hn:n <= 2 ^ 60):
  Calls Tryz.prog 266 #[v,.int .i64 (n:Int)] w fun e w'=>∃ v,e = .returned v/\NatIs w' v (a / 2 ^ n)/\Below w.heap.size w w':=by
 obtain ⟨A,c,rfl,h11,h12,h13⟩:=h1
 by_cases h0:n / 64 < (limbs a).length
 ·obtain ⟨ad, _, rfl, _⟩ := h13.get (k := 0) (by omega)
  have:=ziT ad c _ n w h13 ha h11 h0 hn
  rwa [zan] at this
 ·have hz:a / 2 ^ n=0:=by
   apply Nat.div_eq_of_lt
   refine Nat.lt_of_lt_of_le (zaz a) ?_
   rw [zbv,<- Nat.pow_mul]
   refine Nat.pow_le_pow_right (by omega) ?_
   unfold wl
   omega
  rw [hz]
  generalize (limbs a).length=m at *
  have hm':m <= n / 64:=by omega
  clear hz h13 h0 ha
  go_enter Tryz.func266,Tryz.ntmps266
  go_wp2_with fail
  go_ret
  exact ⟨_,rfl,NatIs.zero _,Below.refl _ _⟩
def bl (n:Nat):Nat:=if n=0 then 0 else Nat.log2 n+1
theorem zjt:bl 0=0:=by simp [bl]
theorem bl_eq {n k:Nat} (h1:2 ^ k <= n) (h2:n < 2 ^ (k+1)):bl n=k+1:=by
 have h0:n ≠ 0:=by have:=Nat.two_pow_pos k; omega
 simp only [bl,if_neg h0]
 rw [(Nat.log2_eq_iff h0).2 ⟨h1,h2⟩]
theorem zco {n:Nat} (h0:n ≠ 0):0 < bl n/\2 ^ (bl n - 1) <= n/\n < 2 ^ bl n:=by
 simp only [bl,if_neg h0]
 have:=(Nat.log2_eq_iff h0 (k:=n.log2)).1 rfl
 exact ⟨by omega,by simpa using this.1,this.2⟩
theorem bl_le {n k:Nat} (h:n < 2 ^ k):bl n <= k:=by
 by_cases h0:n=0
 ·subst h0; simp [bl]
 ·obtain ⟨h1, h2, _⟩ := zco h0
  have:2 ^ (bl n - 1) < 2 ^ k:=Nat.lt_of_le_of_lt h2 h
  have:=(Nat.pow_lt_pow_iff_right (a:=2) (by omega)).1 this
  omega
theorem zfB (n:Nat):n < 2 ^ bl n:=by
 by_cases h0:n=0
 ·subst h0; exact Nat.two_pow_pos _
 ·exact (zco h0).2.2
theorem zju {n:Nat} (h0:n ≠ 0):bl n=1+bl (n / 2):=by
 by_cases h1:n / 2=0
 ·have : n = 1 := by omega
  subst this; decide
 ·obtain ⟨a, b, c⟩ := zco h1
  have e:bl n=(bl (n / 2))+1:=by
   refine bl_eq ?_ ?_
   ·have e:2 ^ bl (n / 2)=2 * 2 ^ (bl (n / 2) - 1):=by
     obtain ⟨k,hk⟩:∃ k,bl (n / 2)=k+1:=⟨bl (n / 2) - 1,by omega⟩
     rw [hk,Nat.pow_succ',Nat.add_sub_cancel]
    omega
   ·rw [Nat.pow_succ]; omega
  omega
theorem zeI:∀ (f x:Nat),x < 2 ^ f -> Lib.bitLenAux f x=bl x
 | 0, x, h => by have : x = 0 := by simpa using h
                 subst this; rfl
 | f+1,x,h=>by
  rw [Lib.bitLenAux]
  by_cases h0:x=0
  ·subst h0; simp [bl]
  ·rw [if_neg h0,zeI f (x / 2) (by rw [Nat.pow_succ] at h; omega),zju h0]
theorem zmt {x:Nat} (h:x < B64):Lib.bitLen x=bl x:=zeI 64 x h
theorem zho {a k x:Nat} (h:(limbs a)[k]?=some x) (hk:(limbs a).length=k+1):bl a=64 * k+bl x/\x ≠ 0:=by
 have hx0:x ≠ 0:=by
  rintro rfl
  have e:=zaU h
  rw [<- hk,List.take_length] at e
  have h1:=zan a
  rw [e,zdC] at h1
  have h2:=zhw (ws:=(limbs a).take k) (fun z hz=>zcI a z (List.mem_of_mem_take hz))
  rw [h1,List.length_take] at h2
  unfold wl at h2
  omega
 refine ⟨?_,hx0⟩
 obtain ⟨h1,h2,h3⟩:=zco hx0
 have e:=zaU h
 rw [<- hk,List.take_length] at e
 have hv:=zan a
 rw [e,val_append,zbV,List.length_take,hk,Nat.min_eq_left (by omega)] at hv
 have hlow:=zcS ((limbs a).take k) (fun z hz=>zcI a z (List.mem_of_mem_take hz))
 rw [List.length_take,hk,Nat.min_eq_left (by omega)] at hlow
 have hB:B64 ^ k=2 ^ (64 * k):=by rw [zbv,<- Nat.pow_mul]
 rw [hB] at hv hlow
 have:=bl_eq (n:=a) (k:=64 * k+(bl x - 1)) (by
   rw [Nat.pow_add,<- hv]
   exact zo (Nat.mul_le_mul_left _ h2) (Nat.le_add_left _ _)) (by
   rw [show 64 * k+(bl x - 1)+1=64 * k+bl x by omega,Nat.pow_add,<- hv]
   have h4:2 ^ (64 * k) * (x+1) <= 2 ^ (64 * k) * 2 ^ bl x:=Nat.mul_le_mul_left _ h3
   rw [Nat.mul_add,Nat.mul_one] at h4
   omega)
 omega
theorem zcY (x:Nat) (hx:x < B64) (w:World):Calls Tryz.prog 265 #[.int .u64 (x:Int)] w fun e w'=>e = .returned (.int .i64 (64 - (bl x:Int)))/\w=w':=by
 refine (Tryz.bits_LeadingZeros64 _ w (by omega) (by unfold B64 at hx; omega)).mono ?_
 rintro e w' ⟨rfl,rfl⟩
 exact ⟨zbF (by rw [Int.toNat_natCast,zmt hx]),rfl⟩
theorem zel (v:Value) (a:Nat) (w:World) (h1:NatIs w v a) (ha:wl a <= MaxW):
  Calls Tryz.prog 230 #[v] w fun e w'=>e = .returned (.int .i64 (bl a:Int))/\w=w':=by
 obtain ⟨A,c,rfl,h11,h12,h13⟩:=h1
 by_cases h0:a=0
 ·subst h0
  rw [zao,zjt]
  go_enter Tryz.func230,Tryz.ntmps230
  go_wp2_with fail
  go_ret
  exact ⟨rfl,rfl⟩
 ·obtain ⟨k, hk⟩ : ∃ k, (limbs a).length = k + 1 := ⟨(limbs a).length - 1, by have := ze4 h0; unfold wl at this; omega⟩
  obtain ⟨ad,x,rfl,_,hcx,hxl,HX⟩:=h13.get (k:=k) (by omega)
  obtain ⟨he,hx0⟩:=zho HX.out hk
  have hb:=bl_le (k:=64) (n:=x) hxl
  unfold wl MaxW at ha
  rw [hk] at ha ⊢
  rw [he]
  have hne:(((k:Int)+1) == 0)=false:=by simp; omega
  clear he h13 hk h0 h11 hx0
  go_enter Tryz.func230,Tryz.ntmps230
  go_wp2_with (go_at_call 265; refine (zcY x hxl _).mono ?_; rintro e w' ⟨rfl,rfl⟩)
  go_ret
  exact ⟨zbF (by omega),rfl⟩
end
end Go.Proofs.YtombhkpniddceaaGreatDoor
