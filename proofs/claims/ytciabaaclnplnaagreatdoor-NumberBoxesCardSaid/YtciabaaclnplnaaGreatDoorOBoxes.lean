import Derived.Test.YtciabaaclnplnaaGreatDoorM46
import Derived.Test.YtciabaaclnplnaaGreatDoorCardBase
import Derived.Test.YtciabaaclnplnaaGreatDoorM48
set_option maxHeartbeats 25600000
set_option maxRecDepth 100000
set_option synthInstance.maxSize 20000
set_option linter.all false
namespace Go.Proofs.YtciabaaclnplnaaGreatDoor
open Go.RowKit
theorem znj {g c n:Nat} {t:TypeId} {es:List Int} {vs:Array Value} {w:World} [hb:Blk w g t vs] (hv:vs=(es.map (Value.int .i64)).toArray) (hl:es.length=n) (hn:n < 2 ^ 40):
  Calls Tryz.prog 12 #[.slice (some ⟨g,0,none⟩) n c] w (PRet w (.int .i64 (zay es))):=by
 have hc:∀ (i:Nat) (x:Int),es[i]?=some x -> w.cell? ⟨g,i,none⟩=some (.int .i64 x):=by
  intro i x hx
  rw [Blk.cell (vs:=vs),hv]
  simp [hx]
 have HC:=Hid.mk hc; have HN:=Hid.mk hn; have HL:=Hid.mk hl
 clear hc hn hl hv hb
 go_enter Tryz.func12,Tryz.ntmps12
 go_wp2_with fail
 go_loopw [3] (fun s7 wr=>∃ i:Nat,s7 = .int .i64 (i:Int)/\i <= n/\(∀ (j:Nat) (y:Int),j < i -> es[j]?=some y -> y=0)/\∃ m,wr=w.drewN m) (fun s7 _=>n - (intOf s7).toNat)
 case atStart=>exact ⟨0,rfl,Nat.zero_le _,fun _ _ h=>absurd h (by omega),0,rfl⟩
 case round=>
  obtain ⟨i,rfl,hi,hok,m,rfl⟩:=hrel
  have HO:=Hid.mk hok
  clear hok
  by_cases hin:i < n
  ·have hlt : decide ((i : Int) < (n : Int)) = true := by simp; omega
   have hlt':(i:Int) < (n:Int):=by omega
   have hadd:IntKind.i64.wrap ((i:Int)+1)=((i+1:Nat):Int):=by have:=HN.out; rw [IntKind.wrap_i64]; omega
   obtain ⟨x,hx⟩:∃ x,es[i]?=some x:=⟨es[i]'(by rw [HL.out]; exact hin),List.getElem?_eq_getElem _⟩
   have k3:(w.drewN m).cell? ⟨g,i,none⟩=some (.int .i64 x):=HC.out i x hx
   have HX:=Hid.mk hx
   clear hx
   by_cases hxy:x=0
   ·subst hxy
    go_wp2_with fail
    go_roundw
    case rel=>exact ⟨i+1,rfl,hin,fun j y hj hy=>by
     rcases Nat.lt_or_ge j i with h | h
     ·exact HO.out j y h hy
     ·obtain rfl : j = i := by omega
      rw [HX.out] at hy; exact (Option.some.inj hy).symm,_,rfl⟩
    case measure=>simp [intOf]; omega
   ·have hnx : (x != 0) = true := by simpa using hxy
    go_wp2_with fail
    go_ret
    exact ⟨by rw [zcK HO.out HX.out hxy]; rfl,zaa⟩
  ·have hlt : decide ((i : Int) < (n : Int)) = false := by simp; omega
   have hlt':¬ (i:Int) < (n:Int):=by omega
   go_wp2_with fail
   go_ret
   exact ⟨by rw [zcd (fun e he=>by
    obtain ⟨j,hj,rfl⟩:=List.getElem_of_mem he
    exact HO.out j _ (by have:=HL.out; omega) (List.getElem?_eq_getElem hj))]; rfl,zaa⟩
theorem zgd {g c:Nat} {t:TypeId} {x y:Int} {w:World} [hb:Blk w g t #[.int .i64 x,.int .i64 y]]:
  Calls Tryz.prog 12 #[.slice (some ⟨g,0,none⟩) 2 c] w (PRet w (.int .i64 (or2 x y))):=by
 have h:=znj (g:=g) (c:=c) (n:=2) (es:=[x,y]) (w:=w) rfl rfl (by omega)
 rw [show zay [x,y]=or2 x y by
  unfold or2 zay zay zay
  split
  ·split <;> simp_all
  ·rfl] at h
 exact h
theorem zhp {a b c d:Rat} (h1:a <= b) (h2:c <= d):a+c <= b+d:=Rat.le_trans (Rat.add_le_add_right.2 h1) (Rat.add_le_add_left.2 h2)
theorem znK {a b:Rat × Rat} (ha:a.1 <= a.2) (hb:b.1 <= b.2):addI a b=(a.1+b.1,a.2+b.2):=by
 unfold addI
 rw [zf3]
 refine zgc ?_ (.inl rfl) (.inr (.inr (.inr rfl)))
 intro x y hx hy
 have h1:a.1 <= x/\x <= a.2:=by rcases hx with rfl | rfl; exact ⟨Rat.le_refl,ha⟩; exact ⟨ha,Rat.le_refl⟩
 have h2:b.1 <= y/\y <= b.2:=by rcases hy with rfl | rfl; exact ⟨Rat.le_refl,hb⟩; exact ⟨hb,Rat.le_refl⟩
 exact ⟨zhp h1.1 h2.1,zhp h1.2 h2.2⟩
theorem zmO {a b:Rat × Rat} (ha:a.1 <= a.2) (hb:b.1 <= b.2):subI a b=(a.1 - b.2,a.2 - b.1):=by
 unfold subI
 rw [zf3]
 refine zgc ?_ (.inr (.inl rfl)) (.inr (.inr (.inl rfl)))
 intro x y hx hy
 have h1:a.1 <= x/\x <= a.2:=by rcases hx with rfl | rfl; exact ⟨Rat.le_refl,ha⟩; exact ⟨ha,Rat.le_refl⟩
 have h2:b.1 <= y/\y <= b.2:=by rcases hy with rfl | rfl; exact ⟨Rat.le_refl,hb⟩; exact ⟨hb,Rat.le_refl⟩
 rw [Rat.sub_eq_add_neg,Rat.sub_eq_add_neg,Rat.sub_eq_add_neg]
 exact ⟨zhp h1.1 (Rat.neg_le_neg h2.2),zhp h1.2 (Rat.neg_le_neg h2.1)⟩
section
variable {p q:Rat} {a b:Nat} {w:World}
theorem zqe [d1:Sz p a] [d2:Sz q b] (ha:a <= 2 ^ 15) (hb:b <= 2 ^ 15):Calls Tryz.prog 182 #[str (zad p),str (zad q)] w (PRet w (str (zad (minQ p q)))):=by
 have HC:Hid (∀ w,Calls _ _ _ w _):=Hid.mk (fun w=>ziA (p:=p) (q:=q) (w:=w) ha hb)
 rw [zka] at HC
 obtain ⟨c,hc⟩:∃ c,cmpQ p q=c:=⟨_,rfl⟩
 rw [hc] at HC
 by_cases h:c <= 0
 ·have hd : decide (c <= 0) = true := by simpa using h
  have HV:Hid (minQ p q=p):=Hid.mk (if_pos (by rw [hc]; exact h))
  clear hc ha hb
  go_enter Tryz.func182,Tryz.ntmps182
  go_wp2_with fail
  refine Calls.mono (HC.out _) ?_
  rintro e w1 ⟨rfl,hx1⟩
  go_wp2_with fail
  go_ret
  exact ⟨by rw [HV.out]; rfl,zaa⟩
 ·have hd : decide (c <= 0) = false := by simpa using h
  have HV:Hid (minQ p q=q):=Hid.mk (if_neg (by rw [hc]; exact h))
  clear hc ha hb
  go_enter Tryz.func182,Tryz.ntmps182
  go_wp2_with fail
  refine Calls.mono (HC.out _) ?_
  rintro e w1 ⟨rfl,hx1⟩
  go_wp2_with fail
  go_ret
  exact ⟨by rw [HV.out]; rfl,zaa⟩
theorem zqf [d1:Sz p a] [d2:Sz q b] (ha:a <= 2 ^ 15) (hb:b <= 2 ^ 15):Calls Tryz.prog 183 #[str (zad p),str (zad q)] w (PRet w (str (zad (maxQ p q)))):=by
 have HC:Hid (∀ w,Calls _ _ _ w _):=Hid.mk (fun w=>ziA (p:=p) (q:=q) (w:=w) ha hb)
 rw [zka] at HC
 obtain ⟨c,hc⟩:∃ c,cmpQ p q=c:=⟨_,rfl⟩
 rw [hc] at HC
 by_cases h:0 <= c
 ·have hd : decide (0 <= c) = true := by simpa using h
  have HV:Hid (maxQ p q=p):=Hid.mk (if_pos (by rw [hc]; exact h))
  clear hc ha hb
  go_enter Tryz.func183,Tryz.ntmps183
  go_wp2_with fail
  refine Calls.mono (HC.out _) ?_
  rintro e w1 ⟨rfl,hx1⟩
  go_wp2_with fail
  go_ret
  exact ⟨by rw [HV.out]; rfl,zaa⟩
 ·have hd : decide (0 <= c) = false := by simpa using h
  have HV:Hid (maxQ p q=q):=Hid.mk (if_neg (by rw [hc]; exact h))
  clear hc ha hb
  go_enter Tryz.func183,Tryz.ntmps183
  go_wp2_with fail
  refine Calls.mono (HC.out _) ?_
  rintro e w1 ⟨rfl,hx1⟩
  go_wp2_with fail
  go_ret
  exact ⟨by rw [HV.out]; rfl,zaa⟩
end
theorem zpR {p q:Rat} {k:Nat} (h1:Sz p k) (h2:Sz q k):Sz (minQ p q) k:=by unfold minQ; split; exact h1; exact h2
theorem zpS {p q:Rat} {k:Nat} (h1:Sz p k) (h2:Sz q k):Sz (maxQ p q) k:=by unfold maxQ; split; exact h1; exact h2
section
variable {g c n:Nat} {t:TypeId} {vs:Array Value} {w:World}
def zj0 (L:List Rat):Int:=zay (L.map zf6)
theorem zky {q:Rat} (h:zf6 q ≠ 0):zf6 q=4:=by
 unfold zf6 at h ⊢
 split
 ·rename_i hf; exact absurd (if_pos hf) h
 ·rfl
theorem zgo {Q:List Rat} {k:Nat} [hb:Blk w g t vs] (hv:vs=strs (Q.map zad)) (hl:Q.length=n) (hn:n < 2 ^ 40) (hs:∀ q ∈ Q,Sz q k) (hk:k <= 2 ^ 15):
  Calls Tryz.prog 172 #[.slice (some ⟨g,0,none⟩) n c] w (PRet w (.int .i64 (zj0 Q))):=by
 obtain ⟨L,hLQ⟩:∃ L,Q.map zad=L:=⟨_,rfl⟩
 rw [hLQ] at hv
 have hc:∀ (i:Nat) (x:List UInt8),L[i]?=some x -> ∀ w',Nxt w w' -> w'.cell? ⟨g,i,none⟩=some (str x):=by
  intro i x hx w' hn
  have hb':Blk w' g t vs:=Blk.nxt (h:=hn) (k:=hb)
  rw [Blk.cell (vs:=vs),hv]
  unfold strs
  simp [hx]
 have HC:=Hid.mk hc; have HN:=Hid.mk hn; have HL:=Hid.mk hl
 clear hc hn hl hv hb
 have HS:=Hid.mk hs; have HK:=Hid.mk hk
 have HLQ:=Hid.mk hLQ
 clear hs hk hLQ
 unfold zj0
 go_enter Tryz.func172,Tryz.ntmps172
 go_wp2_with fail
 go_loopw [3] (fun s3 wr=>∃ i:Nat,s3 = .int .i64 (i:Int)/\i <= n/\(∀ (j:Nat) (y:Int),j < i -> (Q.map zf6)[j]?=some y -> y=0)/\Nxt w wr) (fun s3 _=>n - (intOf s3).toNat)
 case atStart=>exact ⟨0,rfl,Nat.zero_le _,fun _ _ h=>absurd h (by omega),zaa⟩
 case round=>
  obtain ⟨i,rfl,hi,hok,hx0⟩:=hrel
  have HO:=Hid.mk hok
  clear hok
  by_cases hin:i < n
  ·have hlt : decide ((i : Int) < (n : Int)) = true := by simp; omega
   have hlt':(i:Int) < (n:Int):=by omega
   have hadd:IntKind.i64.wrap ((i:Int)+1)=((i+1:Nat):Int):=by have:=HN.out; rw [IntKind.wrap_i64]; omega
   obtain ⟨q,hq⟩:∃ q,Q[i]?=some q:=⟨Q[i]'(by rw [HL.out]; exact hin),List.getElem?_eq_getElem _⟩
   have k3:=HC.out i (zad q) (by rw [<- HLQ.out,List.getElem?_map,hq]; rfl) wr hx0
   have hm:Sz q k:=HS.out q (List.mem_of_getElem? hq)
   have HX:=Hid.mk (show (Q.map zf6)[i]?=some (zf6 q) by rw [List.getElem?_map,hq]; rfl)
   have HG:Hid (∀ w,Calls _ _ _ w _):=Hid.mk (fun w=>zm7 (q:=q) (a:=k) (w:=w) HK.out)
   have HT:=Hid.mk (zky (q:=q))
   obtain ⟨E,hE⟩:∃ E,zf6 q=E:=⟨_,rfl⟩
   rw [hE] at HX HG HT
   clear hq hm hE
   go_wp2_with fail
   refine Calls.mono (HG.out _) ?_
   rintro e w1 ⟨rfl,hx1⟩
   by_cases hz:E=0
   ·subst hz
    go_wp2_with fail
    go_roundw
    case rel=>exact ⟨i+1,rfl,hin,fun j y hj hy=>by
     rcases Nat.lt_or_ge j i with h | h
     ·exact HO.out j y h hy
     ·obtain rfl : j = i := by omega
      rw [HX.out] at hy; exact (Option.some.inj hy).symm,zaa⟩
    case measure=>simp [intOf]; omega
   ·have hnx : (E != 0) = true := by simpa using hz
    go_wp2_with fail
    go_ret
    exact ⟨by rw [zcK HO.out HX.out hz,HT.out hz]; rfl,zaa⟩
  ·have hlt : decide ((i : Int) < (n : Int)) = false := by simp; omega
   have hlt':¬ (i:Int) < (n:Int):=by omega
   go_wp2_with fail
   go_ret
   exact ⟨by rw [zcd (fun e he=>by
    obtain ⟨j,hj,rfl⟩:=List.getElem_of_mem he
    exact HO.out j _ (by have:=HL.out; simp at hj; omega) (List.getElem?_eq_getElem hj))]; rfl,zaa⟩
theorem zgV {L:List (List UInt8)} [hb:Blk w g t vs] (hv:vs=strs L) (hl:L.length=n) (hn:n < 2 ^ 40):
  Calls Tryz.prog 9 #[.slice (some ⟨g,0,none⟩) n c] w (PRet w (.bool (L.any fun x=>decide (60 < x.length)))):=by
 have hc:∀ (i:Nat) (x:List UInt8),L[i]?=some x -> ∀ w',Nxt w w' -> w'.cell? ⟨g,i,none⟩=some (str x):=by
  intro i x hx w' hn
  have hb':Blk w' g t vs:=Blk.nxt (h:=hn) (k:=hb)
  rw [Blk.cell (vs:=vs),hv]
  unfold strs
  simp [hx]
 have HC:=Hid.mk hc; have HN:=Hid.mk hn; have HL:=Hid.mk hl
 clear hc hn hl hv hb
 obtain ⟨B,hB⟩:∃ B,(L.any fun x=>decide (60 < x.length))=B:=⟨_,rfl⟩
 have HB:=Hid.mk hB
 rw [hB]
 clear hB
 go_enter Tryz.func9,Tryz.ntmps9
 go_wp2_with fail
 go_loopw [3] (fun s3 wr=>∃ i:Nat,s3 = .int .i64 (i:Int)/\i <= n/\(∀ (j:Nat) (y:List UInt8),j < i -> L[j]?=some y -> y.length <= 60)/\Nxt w wr) (fun s3 _=>n - (intOf s3).toNat)
 case atStart=>exact ⟨0,rfl,Nat.zero_le _,fun _ _ h=>absurd h (by omega),zaa⟩
 case round=>
  obtain ⟨i,rfl,hi,hok,hx0⟩:=hrel
  have HO:=Hid.mk hok
  clear hok
  by_cases hin:i < n
  ·have hlt : decide ((i : Int) < (n : Int)) = true := by simp; omega
   have hlt':(i:Int) < (n:Int):=by omega
   have hadd:IntKind.i64.wrap ((i:Int)+1)=((i+1:Nat):Int):=by have:=HN.out; rw [IntKind.wrap_i64]; omega
   obtain ⟨x,hx⟩:∃ x,L[i]?=some x:=⟨L[i]'(by rw [HL.out]; exact hin),List.getElem?_eq_getElem _⟩
   have k3:=HC.out i x hx wr hx0
   have HX:=Hid.mk hx
   clear hx
   by_cases hz:60 < x.length
   ·have d1 : decide ((60 : Int) < (x.length : Int)) = true := by simp; omega
    have d2:decide (60 < x.length)=true:=by simp; omega
    have HZ:=Hid.mk hz
    go_wp2_with fail
    go_ret
    exact ⟨by rw [<- HB.out,show (L.any fun x=>decide (60 < x.length))=true from List.any_eq_true.2 ⟨x,List.mem_of_getElem? HX.out,by simpa using HZ.out⟩]; rfl,zaa⟩
   ·have d1 : decide ((60 : Int) < (x.length : Int)) = false := by simp; omega
    have d2:decide (60 < x.length)=false:=by simp; omega
    have HZ:=Hid.mk hz
    go_wp2_with fail
    go_roundw
    case rel=>exact ⟨i+1,rfl,hin,fun j y hj hy=>by
     rcases Nat.lt_or_ge j i with h | h
     ·exact HO.out j y h hy
     ·obtain rfl : j = i := by omega
      rw [HX.out] at hy
      obtain rfl:=Option.some.inj hy
      have:=HZ.out; omega,zaa⟩
    case measure=>simp [intOf]; omega
  ·have hlt : decide ((i : Int) < (n : Int)) = false := by simp; omega
   have hlt':¬ (i:Int) < (n:Int):=by omega
   go_wp2_with fail
   go_ret
   exact ⟨by rw [<- HB.out,show (L.any fun x=>decide (60 < x.length))=false from List.any_eq_false.2 (fun x hx=>by
    obtain ⟨j,hj,rfl⟩:=List.getElem_of_mem hx
    have:=HO.out j _ (by have:=HL.out; omega) (List.getElem?_eq_getElem hj)
    simp; omega)]; rfl,zaa⟩
end
def hullN (x0:Rat) (L:List Rat) (i:Nat):Rat × Rat:=hullF (x0,x0) ((L.drop 1).take (i - 1))
theorem zkD {x0 x:Rat} {L:List Rat} {i:Nat} (h1:1 <= i) (hx:L[i]?=some x):hullN x0 L (i+1)=hullS (hullN x0 L i) x:=by
 obtain ⟨j,rfl⟩:∃ j,i=j+1:=⟨i - 1,by omega⟩
 have h2:(L.drop 1)[j]?=some x:=by rw [List.getElem?_drop,Nat.add_comm,hx]
 show hullF _ ((L.drop 1).take (j+1))=hullS (hullF _ ((L.drop 1).take j)) x
 rw [List.take_add_one,h2]
 unfold hullF
 rw [List.foldl_append]
 rfl
theorem zlV {x0:Rat} {L:List Rat} {n:Nat} (h:L.length=n):hullN x0 L n=hullF (x0,x0) (L.drop 1):=by
 unfold hullN
 rw [List.take_of_length_le (by rw [List.length_drop]; omega)]
section
variable {g c n k:Nat} {t:TypeId} {vs:Array Value} {w:World}
theorem hull9_c {Q:List Rat} {x0:Rat} [hb:Blk w g t vs] (hv:vs=strs (Q.map zad)) (hl:Q.length=n) (hn:n < 2 ^ 40) (h0:Q[0]?=some x0) (hs:∀ q ∈ Q,Sz q k) (hk:k <= 2 ^ 15):
  Calls Tryz.prog 102 #[.slice (some ⟨g,0,none⟩) n c] w (PRet w (spanR (hullF (x0,x0) (Q.drop 1)))):=by
 have hc:∀ (i:Nat) (q:Rat),Q[i]?=some q -> vs[i]?=some (str (zad q)):=by
  intro i q hq
  rw [hv]
  unfold strs
  simp [hq]
 have HC:=Hid.mk hc; have HN:=Hid.mk hn; have HL:=Hid.mk hl; have HS:=Hid.mk hs; have HK:=Hid.mk hk
 have hnp:0 < n:=by
  rcases Nat.eq_zero_or_pos n with h | h
  ·rw [List.getElem?_eq_none (by omega)] at h0; cases h0
  ·exact h
 have HE:=Hid.mk (zlV (x0:=x0) hl)
 have k0:=hc 0 x0 h0
 have d0:Sz x0 k:=hs x0 (List.mem_of_getElem? h0)
 have n0:decide (0 < n)=true:=by simpa using hnp
 have n1:(0:Int) < (n:Int):=by omega
 clear hc hn hl hs hk h0 hv
 go_enter Tryz.func102,Tryz.ntmps102
 go_wp2_with fail
 (refine Code.nameW ?_; intro W hW; go_region_held3 (fun w'=>ButO W [] w') (exact zab) (fail))
 all_goals (have hG0:NewIn W.heap.size (w.alloc (.cells #[str [],str []] 24)):=zbh)
 all_goals (obtain ⟨G,hG⟩:∃ G,W.heap.size=G:=⟨_,rfl⟩)
 all_goals rw [hG] at hG0
 all_goals go_wp2_with fail
 all_goals (
  rw [hG]
  go_loopw [4] (fun s4 wr=>∃ (i:Nat) (y:Rat × Rat),s4 = .int .i64 (i:Int)/\1 <= i/\i <= n/\y=hullN x0 Q i/\Sz y.1 k/\Sz y.2 k/\Blk wr G 24 #[str (zad y.1),str (zad y.2)]/\Blk wr w.heap.size 24 #[str [],str []]/\Nxt w wr) (fun s4 _=>n - (intOf s4).toNat)
  case atStart=>exact ⟨1,(x0,x0),rfl,by omega,by omega,rfl,d0,d0,by rw [<- hG]; infer_instance,inferInstance,zaa⟩
  case round=>
   obtain ⟨i,y,rfl,hi1,hi,hy,z1,z2,b1,b2,hx0⟩:=hrel
   have HY:=Hid.mk hy
   clear hy
   by_cases hin:i < n
   ·have hlt : decide ((i : Int) < (n : Int)) = true := by simp; omega
    have hlt':(i:Int) < (n:Int):=by omega
    have hadd:IntKind.i64.wrap ((i:Int)+1)=((i+1:Nat):Int):=by have:=HN.out; rw [IntKind.wrap_i64]; omega
    obtain ⟨q,hq⟩:∃ q,Q[i]?=some q:=⟨Q[i]'(by rw [HL.out]; exact hin),List.getElem?_eq_getElem _⟩
    have k3:=HC.out i q hq
    have z3:Sz q k:=HS.out q (List.mem_of_getElem? hq)
    have HST:=Hid.mk (zkD (x0:=x0) hi1 hq)
    have HI:=Hid.mk (show 1 <= i/\i < n from ⟨hi1,hin⟩)
    clear hq hi1 hi hin
    go_wp2_with fail
    go_region_with ((first | (go_at_call 182; refine Calls.mono (zqe (p:=y.1) (q:=q) HK.out HK.out) ?_; rintro e w1 ⟨rfl,_⟩) | (go_at_call 183; refine Calls.mono (zqf (p:=y.2) (q:=q) HK.out HK.out) ?_; rintro e w1 ⟨rfl,_⟩)))
    all_goals go_wp2_with fail
    all_goals go_roundw
    all_goals first
    | exact ⟨i+1,(minQ y.1 q,maxQ y.2 q),rfl,by have:=HI.out; omega,by have:=HI.out; omega,by rw [HST.out,<- HY.out]; rfl,zpR z1 z3,zpS z2 z3,inferInstance,inferInstance,zaa⟩
    | (have:=HI.out; simp [intOf]; omega)
   ·have hlt : decide ((i : Int) < (n : Int)) = false := by simp; omega
    have hlt':¬ (i:Int) < (n:Int):=by omega
    obtain rfl:i=n:=by omega
    have hy:=HY.out
    rw [HE.out] at hy
    rw [<- hy]
    go_wp2_with fail
    all_goals simp [bodyPost,results,Tryz.results102,go_sem]
    all_goals exact ⟨rfl,zaa⟩)
end
section
variable {x y:Rat × Rat} {k:Nat} {w:World}
theorem zpM [d1:Sz x.1 k] [d2:Sz x.2 k] [d3:Sz y.1 k] [d4:Sz y.2 k] (hk:k <= 2 ^ 15):Calls Tryz.prog 29 #[spanR x,spanR y] w (PRet w (spanR (x.1+y.1,x.2+y.2))):=by
 have HK:=Hid.mk hk
 clear hk
 go_enter Tryz.func29,Tryz.ntmps29
 go_wp2_with fail
 (refine Code.nameW ?_; intro W hW; go_region_held3 (fun w'=>ButO W [w.heap.size+1+1] w') (exact zab) ((go_at_call 47; refine Calls.mono (zn9 HK.out HK.out) ?_; rintro e w1 ⟨rfl,_⟩)))
 all_goals go_wp2_with fail
 all_goals simp [bodyPost,results,Tryz.results29,go_sem]
 all_goals exact ⟨rfl,zaa⟩
theorem zjU [d1:Sz x.1 k] [d2:Sz x.2 k] [d3:Sz y.1 k] [d4:Sz y.2 k] (hk:k <= 2 ^ 15):Calls Tryz.prog 30 #[spanR x,spanR y] w (PRet w (spanR (x.1 - y.2,x.2 - y.1))):=by
 have HK:=Hid.mk hk
 clear hk
 go_enter Tryz.func30,Tryz.ntmps30
 go_wp2_with fail
 (refine Code.nameW ?_; intro W hW; go_region_held3 (fun w'=>ButO W [w.heap.size+1+1] w') (exact zab) ((go_at_call 48; refine Calls.mono (znS HK.out HK.out) ?_; rintro e w1 ⟨rfl,_⟩)))
 all_goals go_wp2_with fail
 all_goals simp [bodyPost,results,Tryz.results30,go_sem]
 all_goals exact ⟨rfl,zaa⟩
theorem zla {q:Rat}:Calls Tryz.prog 89 #[str (zad q)] w (PRet w (spanR (q,q))):=by
 go_enter Tryz.func89,Tryz.ntmps89
 go_wp2_with fail
 simp [bodyPost,results,Tryz.results89,go_sem]
 exact ⟨rfl,zaa⟩
theorem zpw {g c:Nat} {t:TypeId} {a b d e:Rat} [hb:Blk w g t #[str (zad a),str (zad b),str (zad d),str (zad e)]] [d1:Sz a k] [d2:Sz b k] [d3:Sz d k] [d4:Sz e k] (hk:k <= 2 ^ 15):
  Calls Tryz.prog 102 #[.slice (some ⟨g,0,none⟩) 4 c] w (PRet w (spanR (hullF (a,a) [b,d,e]))):=
 hull9_c (Q:=[a,b,d,e]) (x0:=a) (k:=k) (n:=4) rfl rfl (by omega) rfl (by
  intro q hq
  simp at hq
  rcases hq with rfl | rfl | rfl | rfl <;> assumption) hk
theorem zjB [d1:Sz x.1 k] [d2:Sz x.2 k] [d3:Sz y.1 k] [d4:Sz y.2 k] (hk:k <= 2 ^ 14):Calls Tryz.prog 31 #[spanR x,spanR y] w (PRet w (spanR (mulI x y))):=by
 have HK:=Hid.mk hk
 have HV:Hid (mulI x y=hullF (x.1 * y.1,x.1 * y.1) [x.1 * y.2,x.2 * y.1,x.2 * y.2]):=Hid.mk (zf3 _ _ _)
 have s1:Sz (x.1 * y.1) (k+k):=inferInstance
 have s2:Sz (x.1 * y.2) (k+k):=inferInstance
 have s3:Sz (x.2 * y.1) (k+k):=inferInstance
 have s4:Sz (x.2 * y.2) (k+k):=inferInstance
 clear hk
 go_enter Tryz.func31,Tryz.ntmps31
 go_wp2_with fail
 (refine Code.nameW ?_; intro W hW; go_region_held3 (fun w'=>ButO W [w.heap.size+1+1] w') (exact zab) (((first | (go_at_call 49; refine Calls.mono (zoh (by have:=HK.out; omega) (by have:=HK.out; omega)) ?_; rintro e w1 ⟨rfl,_⟩) | (go_at_call 102; refine Calls.mono (zpw (a:=x.1 * y.1) (b:=x.1 * y.2) (d:=x.2 * y.1) (e:=x.2 * y.2) (k:=k+k) (by have:=HK.out; omega)) ?_; rintro e w1 ⟨rfl,_⟩)))))
 all_goals go_wp2_with fail
 all_goals simp [bodyPost,results,Tryz.results31,go_sem]
 all_goals exact ⟨by rw [HV.out] <;> rfl,zaa⟩
def hasQ (x:Rat × Rat) (q:Rat):Bool:=decide (cmpQ x.1 q <= 0) && decide (cmpQ q x.2 <= 0)
theorem zlW {x:Rat × Rat}:hasQ x 0=hasZ x:=by
 cases h:hasZ x
 ·cases h2 : hasQ x 0
  ·rfl
  ·unfold hasQ at h2
   rw [Bool.and_eq_true,decide_eq_true_eq,decide_eq_true_eq,zga,zga] at h2
   rw [zgk.2 h2] at h; cases h
 ·have := zgk.1 h
  unfold hasQ
  rw [Bool.and_eq_true,decide_eq_true_eq,decide_eq_true_eq,zga,zga]
  exact this
theorem zoT {q:Rat} [d1:Sz x.1 k] [d2:Sz x.2 k] [d3:Sz q k] (hk:k <= 2 ^ 15):Calls Tryz.prog 32 #[spanR x,str (zad q)] w (PRet w (.bool (hasQ x q))):=by
 have HC1:Hid (∀ w,Calls _ _ _ w _):=Hid.mk (fun w=>ziA (p:=x.1) (q:=q) (w:=w) hk hk)
 have HC2:Hid (∀ w,Calls _ _ _ w _):=Hid.mk (fun w=>ziA (p:=q) (q:=x.2) (w:=w) hk hk)
 rw [zka] at HC1 HC2
 obtain ⟨c1,hc1⟩:∃ c,cmpQ x.1 q=c:=⟨_,rfl⟩
 obtain ⟨c2,hc2⟩:∃ c,cmpQ q x.2=c:=⟨_,rfl⟩
 have HV:Hid (hasQ x q=(decide (c1 <= 0) && decide (c2 <= 0))):=Hid.mk (by unfold hasQ; rw [hc1,hc2])
 rw [hc1] at HC1
 rw [hc2] at HC2
 clear hc1 hc2 hk
 by_cases h1:c1 <= 0
 ·have e1 : decide (c1 <= 0) = true := by simpa using h1
  go_enter Tryz.func32,Tryz.ntmps32
  go_wp2_with fail
  refine Calls.mono (HC1.out _) ?_
  rintro e w1 ⟨rfl,hx1⟩
  go_wp2_with fail
  refine Calls.mono (HC2.out _) ?_
  rintro e w2 ⟨rfl,hx2⟩
  go_wp2_with fail
  go_ret
  exact ⟨by rw [HV.out,e1]; rfl,zaa⟩
 ·have e1 : decide (c1 <= 0) = false := by simpa using h1
  go_enter Tryz.func32,Tryz.ntmps32
  go_wp2_with fail
  refine Calls.mono (HC1.out _) ?_
  rintro e w1 ⟨rfl,hx1⟩
  go_wp2_with fail
  go_ret
  exact ⟨by rw [HV.out,e1]; rfl,zaa⟩
end
section
variable {x y:Rat × Rat} {k:Nat} {w:World}
theorem ziX [o1:Ord2 x] [o2:Ord2 y] [d1:Sz x.1 k] [d2:Sz x.2 k] [d3:Sz y.1 k] [d4:Sz y.2 k] (hk:k <= 2 ^ 15):Calls Tryz.prog 29 #[spanR x,spanR y] w (PRet w (spanR (addI x y))):=by
 rw [znK o1.out o2.out]
 exact zpM hk
theorem zm6 [o1:Ord2 x] [o2:Ord2 y] [d1:Sz x.1 k] [d2:Sz x.2 k] [d3:Sz y.1 k] [d4:Sz y.2 k] (hk:k <= 2 ^ 15):Calls Tryz.prog 30 #[spanR x,spanR y] w (PRet w (spanR (subI x y))):=by
 rw [zmO o1.out o2.out]
 exact zjU hk
theorem zm9 {g c:Nat} {t:TypeId} {a b:Rat} [hb:Blk w g t #[str (zad a),str (zad b)]] [d1:Sz a k] [d2:Sz b k] (hk:k <= 2 ^ 15):
  Calls Tryz.prog 172 #[.slice (some ⟨g,0,none⟩) 2 c] w (PRet w (.int .i64 (wE2 (a,b)))):=by
 have h:=zgo (g:=g) (c:=c) (n:=2) (Q:=[a,b]) (k:=k) (w:=w) rfl rfl (by omega) (by
  intro q hq
  simp at hq
  rcases hq with rfl | rfl <;> assumption) hk
 rw [show zj0 [a,b]=wE2 (a,b) by
  show zay [wE a,wE b]=or2 (wE a) (wE b)
  unfold or2 zay zay zay
  split
  ·split <;> simp_all
  ·rfl] at h
 exact h
theorem zm8 {g c:Nat} {t:TypeId} {a b d e:Rat} [hb:Blk w g t #[str (zad a),str (zad b),str (zad d),str (zad e)]] [d1:Sz a k] [d2:Sz b k] [d3:Sz d k] [d4:Sz e k] (hk:k <= 2 ^ 15):
  Calls Tryz.prog 172 #[.slice (some ⟨g,0,none⟩) 4 c] w (PRet w (.int .i64 (bxE (a,b) (d,e)))):=by
 have h:=zgo (g:=g) (c:=c) (n:=4) (Q:=[a,b,d,e]) (k:=k) (w:=w) rfl rfl (by omega) (by
  intro q hq
  simp at hq
  rcases hq with rfl | rfl | rfl | rfl <;> assumption) hk
 rw [show zj0 [a,b,d,e]=bxE (a,b) (d,e) by
  show zay [wE a,wE b,wE d,wE e]=or2 (or2 (wE a) (wE b)) (or2 (wE d) (wE e))
  unfold or2 zay zay zay zay zay
  repeat' split
  all_goals simp_all] at h
 exact h
theorem zh4 [d1:Sz x.1 k] [d2:Sz x.2 k] (hk:k <= 2 ^ 15):Calls Tryz.prog 85 #[spanR x] w (PRet w (.int .i64 (wE2 x))):=by
 have HL:Hid (∀ (w:World) (g c:Nat) (t:TypeId) [Blk w g t #[str (zad x.1),str (zad x.2)]],Calls _ _ _ w _):=Hid.mk (fun w g c t _=>zm9 (w:=w) (g:=g) (c:=c) (t:=t) (a:=x.1) (b:=x.2) hk)
 obtain ⟨E,hE⟩:∃ E,wE2 x=E:=⟨_,rfl⟩
 rw [show wE2 (x.1,x.2)=E from hE] at HL
 rw [hE]
 clear hk hE
 go_enter Tryz.func85,Tryz.ntmps85
 go_wp2_with fail
 refine Calls.mono (HL.out _ _ _ _) ?_
 rintro e w1 ⟨rfl,hx1⟩
 go_wp2_with fail
 go_ret
 exact ⟨rfl,zaa⟩
theorem zi6 [d1:Sz x.1 k] [d2:Sz x.2 k] [d3:Sz y.1 k] [d4:Sz y.2 k] (hk:k <= 2 ^ 15):Calls Tryz.prog 109 #[bxR x y] w (PRet w (.int .i64 (bxE x y))):=by
 have HL:Hid (∀ (w:World) (g c:Nat) (t:TypeId) [Blk w g t #[str (zad x.1),str (zad x.2),str (zad y.1),str (zad y.2)]],Calls _ _ _ w _):=Hid.mk (fun w g c t _=>zm8 (w:=w) (g:=g) (c:=c) (t:=t) (a:=x.1) (b:=x.2) (d:=y.1) (e:=y.2) hk)
 obtain ⟨E,hE⟩:∃ E,bxE x y=E:=⟨_,rfl⟩
 rw [show bxE (x.1,x.2) (y.1,y.2)=E from hE] at HL
 rw [hE]
 clear hk hE
 go_enter Tryz.func109,Tryz.ntmps109
 go_wp2_with fail
 refine Calls.mono (HL.out _ _ _ _) ?_
 rintro e w1 ⟨rfl,hx1⟩
 go_wp2_with fail
 go_ret
 exact ⟨rfl,zaa⟩
end
section
variable {w:World} {a b c d:List UInt8}
theorem zf2 (h1:a.length <= 2 ^ 19) (h2:b.length <= 2 ^ 19) (h3:c.length <= 2 ^ 19) (h4:d.length <= 2 ^ 19):Calls Tryz.prog 34 #[bxv a b c d] w (PRet w (.int .i64 (spE2 a b c d))):=by
 have H1:Hid (∀ w,Calls _ _ _ w _):=Hid.mk (fun w=>zgg (a:=a) (b:=b) (w:=w) h1 h2)
 have H2:Hid (∀ w,Calls _ _ _ w _):=Hid.mk (fun w=>zgg (a:=c) (b:=d) (w:=w) h3 h4)
 obtain ⟨E,hE⟩:∃ E,spE a b=E:=⟨_,rfl⟩
 obtain ⟨F,hF⟩:∃ F,spE c d=F:=⟨_,rfl⟩
 have HV:Hid (spE2 a b c d=or2 E F):=Hid.mk (by unfold spE2; rw [hE,hF])
 rw [hE] at H1
 rw [hF] at H2
 clear h1 h2 h3 h4 hE hF
 by_cases hz:E=0
 ·subst hz
  go_enter Tryz.func34,Tryz.ntmps34
  go_wp2_with fail
  refine Calls.mono (H1.out _) ?_
  rintro e w1 ⟨rfl,hx1⟩
  go_wp2_with fail
  refine Calls.mono (H2.out _) ?_
  rintro e w2 ⟨rfl,hx2⟩
  go_wp2_with fail
  go_ret
  exact ⟨by rw [HV.out,show or2 0 F=F from if_pos rfl]; rfl,zaa⟩
 ·have k1 : (E == 0) = false := by simpa using hz
  have HZ:=Hid.mk hz
  clear hz
  go_enter Tryz.func34,Tryz.ntmps34
  go_wp2_with fail
  refine Calls.mono (H1.out _) ?_
  rintro e w1 ⟨rfl,hx1⟩
  go_wp2_with fail
  go_ret
  exact ⟨by rw [HV.out,show or2 E F=E from if_neg HZ.out]; rfl,zaa⟩
end
theorem zgm:zad 0=[48]:=zey.2 rfl
section
variable {x y u v:Rat × Rat} {k:Nat} {w:World}
theorem has9_z [d1:Sz x.1 k] [d2:Sz x.2 k] (h0:1 <= k) (hk:k <= 2 ^ 15):Calls Tryz.prog 32 #[spanR x,.string ⟨#[48]⟩] w (PRet w (.bool (hasZ x))):=by
 have d3:Sz (0:Rat) k:=⟨by rw [show (0:Rat).num=0 from rfl]; simp [zbE],by rw [show (0:Rat).den=1 from rfl,za1]; exact h0⟩
 have h:=zoT (x:=x) (q:=0) (k:=k) (w:=w) hk
 rw [zgm,zlW] at h
 exact h
theorem zk4 [o:Ord2 x] [d1:Sz x.1 k] [d2:Sz x.2 k] (h0:1 <= k) (hk:k <= 2 ^ 14):Calls Tryz.prog 21 #[spanR x] w (PRet w (spanR (sqI x))):=by
 have HT:Hid (∀ w,Calls _ _ _ w _):=Hid.mk (fun w=>zjB (x:=x) (y:=x) (k:=k) (w:=w) hk)
 have HH:Hid (∀ w,Calls _ _ _ w _):=Hid.mk (fun w=>has9_z (x:=x) (k:=k) (w:=w) h0 (by omega))
 have hq:=znT o.out
 by_cases hz:hasZ x=true
 ·rw [if_pos hz] at hq
  have HV:Hid (sqI x=(0,(mulI x x).2)):=Hid.mk hq
  rw [hz] at HH
  clear hq hz hk
  go_enter Tryz.func21,Tryz.ntmps21
  go_wp2_with fail
  refine Calls.mono (HT.out _) ?_
  rintro e w1 ⟨rfl,hx1⟩
  go_wp2_with fail
  refine Calls.mono (HH.out _) ?_
  rintro e w2 ⟨rfl,hx2⟩
  go_wp2_with fail
  simp [bodyPost,results,Tryz.results21,go_sem]
  exact ⟨by rw [HV.out]; show _=Ending.returned (.agg #[str (zad 0),str (zad (mulI x x).2)]); rw [zgm] <;> rfl,zaa⟩
 ·rw [if_neg hz] at hq
  have HV:Hid (sqI x=mulI x x):=Hid.mk hq
  rw [show hasZ x=false by simpa using hz] at HH
  clear hq hz hk
  go_enter Tryz.func21,Tryz.ntmps21
  go_wp2_with fail
  refine Calls.mono (HT.out _) ?_
  rintro e w1 ⟨rfl,hx1⟩
  go_wp2_with fail
  refine Calls.mono (HH.out _) ?_
  rintro e w2 ⟨rfl,hx2⟩
  go_wp2_with fail
  simp [bodyPost,results,Tryz.results21,go_sem]
  exact ⟨by rw [HV.out] <;> rfl,zaa⟩
theorem norm9_s [o1:Ord2 x] [o2:Ord2 y] [d1:Sz x.1 k] [d2:Sz x.2 k] [d3:Sz y.1 k] [d4:Sz y.2 k] (h0:1 <= k) (hk:k <= 2 ^ 13):Calls Tryz.prog 42 #[bxR x y] w (PRet w (spanR (addI (sqI x) (sqI y)))):=by
 have HK:=Hid.mk hk; have H0:=Hid.mk h0
 clear hk h0
 go_enter Tryz.func42,Tryz.ntmps42
 go_wp2_with fail
 (refine Code.nameW ?_; intro W hW; go_region_held3 (fun w'=>ButO W [w.heap.size+1] w') (exact zab) (((first | (go_at_call 21; refine Calls.mono (zk4 H0.out (by have:=HK.out; omega)) ?_; rintro e w1 ⟨rfl,_⟩) | (go_at_call 29; refine Calls.mono (ziX (by have:=HK.out; omega)) ?_; rintro e w1 ⟨rfl,_⟩)))))
 all_goals go_wp2_with fail
 all_goals simp [bodyPost,results,Tryz.results42,go_sem]
 all_goals exact ⟨rfl,zaa⟩
theorem zmy [o1:Ord2 x] [o2:Ord2 y] [o3:Ord2 u] [o4:Ord2 v] [d1:Sz x.1 k] [d2:Sz x.2 k] [d3:Sz y.1 k] [d4:Sz y.2 k] [d5:Sz u.1 k] [d6:Sz u.2 k] [d7:Sz v.1 k] [d8:Sz v.2 k] (hk:k <= 2 ^ 13):
  Calls Tryz.prog 43 #[bxR x y,bxR u v] w (PRet w (bxR (addI x u) (addI y v))):=by
 have HK:=Hid.mk hk
 clear hk
 go_enter Tryz.func43,Tryz.ntmps43
 go_wp2_with fail
 (refine Code.nameW ?_; intro W hW; go_region_held3 (fun w'=>ButO W [w.heap.size+1+1] w') (exact zab) ((go_at_call 29; refine Calls.mono (ziX (by have:=HK.out; omega)) ?_; rintro e w1 ⟨rfl,_⟩)))
 all_goals go_wp2_with fail
 all_goals simp [bodyPost,results,Tryz.results43,go_sem]
 all_goals exact ⟨rfl,zaa⟩
theorem zlG [d1:Sz x.1 k] [d2:Sz x.2 k] [d3:Sz y.1 k] [d4:Sz y.2 k] [d5:Sz u.1 k] [d6:Sz u.2 k] [d7:Sz v.1 k] [d8:Sz v.2 k] (hk:k <= 2 ^ 13):
  Calls Tryz.prog 44 #[bxR x y,bxR u v] w (PRet w (bxR (mulRe x y u v) (mulIm x y u v))):=by
 have HK:=Hid.mk hk
 clear hk
 go_enter Tryz.func44,Tryz.ntmps44
 go_wp2_with fail
 (refine Code.nameW ?_; intro W hW; go_region_held3 (fun w'=>ButO W [w.heap.size+1+1] w') (exact zab) (((first | (go_at_call 31; refine Calls.mono (zjB (by have:=HK.out; omega)) ?_; rintro e w1 ⟨rfl,_⟩) | (go_at_call 30; refine Calls.mono (zm6 (by have:=HK.out; omega)) ?_; rintro e w1 ⟨rfl,_⟩) | (go_at_call 29; refine Calls.mono (ziX (by have:=HK.out; omega)) ?_; rintro e w1 ⟨rfl,_⟩)))))
 all_goals go_wp2_with fail
 all_goals simp [bodyPost,results,Tryz.results44,go_sem]
 all_goals exact ⟨rfl,zaa⟩
theorem zk9:Calls Tryz.prog 89 #[.string ⟨#[48]⟩] w (PRet w (spanR ((0:Rat),(0:Rat)))):=by
 have h:=zla (q:=0) (w:=w)
 rw [zgm] at h
 exact h
theorem zm5 [d1:Sz x.1 k] [d2:Sz x.2 k] (h0:1 <= k) (hk:k <= 2 ^ 15):Calls Tryz.prog 30 #[spanR ((0:Rat),(0:Rat)),spanR x] w (PRet w (spanR (-x.2,-x.1))):=by
 have d3:Sz (0:Rat) k:=⟨by rw [show (0:Rat).num=0 from rfl]; simp [zbE],by rw [show (0:Rat).den=1 from rfl,za1]; exact h0⟩
 have d4:Sz ((0:Rat),(0:Rat)).1 k:=d3
 have d5:Sz ((0:Rat),(0:Rat)).2 k:=d3
 have h:=zjU (x:=((0:Rat),(0:Rat))) (y:=x) (k:=k) (w:=w) hk
 simp only [Rat.sub_eq_add_neg,Rat.zero_add] at h
 exact h
theorem conj9_s [d1:Sz x.1 k] [d2:Sz x.2 k] [d3:Sz y.1 k] [d4:Sz y.2 k] (h0:1 <= k) (hk:k <= 2 ^ 13):Calls Tryz.prog 41 #[bxR x y] w (PRet w (bxR x (-y.2,-y.1))):=by
 have HK:=Hid.mk hk; have H0:=Hid.mk h0
 clear hk h0
 go_enter Tryz.func41,Tryz.ntmps41
 go_wp2_with fail
 (refine Code.nameW ?_; intro W hW; go_region_held3 (fun w'=>ButO W [w.heap.size+1] w') (exact zab) (((first | (go_at_call 89; refine Calls.mono (zk9) ?_; rintro e w1 ⟨rfl,_⟩) | (go_at_call 30; refine Calls.mono (zm5 (x:=y) H0.out (by have:=HK.out; omega)) ?_; rintro e w1 ⟨rfl,_⟩)))))
 all_goals go_wp2_with fail
 all_goals simp [bodyPost,results,Tryz.results41,go_sem]
 all_goals exact ⟨rfl,zaa⟩
end
section
open Go.Sort Go.Lib
def addRe (x _y u _v:Rat × Rat):Rat × Rat:=addI x u
def addIm (_x y _u v:Rat × Rat):Rat × Rat:=addI y v
section
variable {w:World} {x y u v:Rat × Rat} {k:Nat} {s t s2 t2 s3 t3 s4 t4:RV}
theorem zlj [h1:RatIs w s.v x.1] [h2:RatIs w t.v x.2] [h3:RatIs w s2.v y.1] [h4:RatIs w t2.v y.2] [h5:RatIs w s3.v u.1] [h6:RatIs w t3.v u.2] [h7:RatIs w s4.v v.1] [h8:RatIs w t4.v v.2]
  [d1:Sz x.1 k] [d2:Sz x.2 k] [d3:Sz y.1 k] [d4:Sz y.2 k] [d5:Sz u.1 k] [d6:Sz u.2 k] [d7:Sz v.1 k] [d8:Sz v.2 k] (hl:k <= 2 ^ 20):
  Calls Tryz.prog 107 #[rgv s t s2 t2,rgv s3 t3 s4 t4] w (GRet w (addRe x y u v) (addIm x y u v)):=by
 have HL:=Hid.mk hl
 have HM:=Hid.mk (show addRe x y u v=addI x u from rfl)
 have HN:=Hid.mk (show addIm x y u v=addI y v from rfl)
 clear hl
 go_enter Tryz.func107,Tryz.ntmps107
 go_wp2_with fail
 (refine Code.nameW ?_; intro W hW; go_region_held3 (fun w'=>ButO W [w.heap.size+1+1] w') (exact zab) ((go_at_call 95; refine Calls.mono (zlp (by have:=HL.out; omega)) ?_; rintro e w1 ⟨p1,p2,rfl,_,_,_⟩)))
 all_goals go_wp2_with fail
 all_goals simp [bodyPost,results,Tryz.results107,go_sem]
 all_goals exact ⟨_,_,_,_,rfl,by rw [HM.out]; infer_instance,by rw [HM.out]; infer_instance,by rw [HN.out]; infer_instance,by rw [HN.out]; infer_instance,zaa⟩
theorem zm0:OpRg 107 addRe addIm where
 call h:=zlj h
 run args w:=by kernel_rfl
 size {x y u v} _ _ _ _ _ _ _ _:=⟨⟨(inferInstance:Sz (addI x u).1 _).le (by decide),(inferInstance:Sz (addI x u).2 _).le (by decide)⟩,
  (inferInstance:Sz (addI y v).1 _).le (by decide),(inferInstance:Sz (addI y v).2 _).le (by decide)⟩
end
section
variable {w:World} {a b c d e f g h:List UInt8}
theorem zhs [hg:Glo w] (h1:a.length < 2 ^ 40) (h2:b.length < 2 ^ 40) (h3:c.length < 2 ^ 40) (h4:d.length < 2 ^ 40) (h5:e.length < 2 ^ 40) (h6:f.length < 2 ^ 40) (h7:g.length < 2 ^ 40) (h8:h.length < 2 ^ 40):
  Calls Tryz.prog 38 #[bxv a b c d,bxv e f g h] w (PRet w (onB addRe addIm a b c d e f g h)):=by
 have HO:=Hid.mk (show ∀ (w:World) [Glo w],Calls _ _ _ w _ from fun w _=>zhO (w:=w) zm0 h1 h2 h3 h4 h5 h6 h7 h8)
 obtain ⟨A,B,C,D,E,hV⟩:=zjT addRe addIm a b c d e f g h
 rw [hV] at HO ⊢
 clear h1 h2 h3 h4 h5 h6 h7 h8 hV
 go_enter Tryz.func38,Tryz.ntmps38
 go_wp2_with fail
 refine Calls.mono (HO.out _) ?_
 rintro e w1 ⟨rfl,_⟩
 go_wp2_with fail
 simp [bodyPost,results,Tryz.results38,go_sem]
 exact ⟨rfl,zaa⟩
theorem zge (h1:a.length < 2 ^ 40) (h2:b.length < 2 ^ 40) (h3:c.length < 2 ^ 40) (h4:d.length < 2 ^ 40):
  Calls Tryz.prog 35 #[bxv a b c d] w (PRet w (.int .i64 (spE2 a b c d))):=by
 obtain ⟨E,hE⟩:∃ E,spE2 a b c d=E:=⟨_,rfl⟩
 have HR1:=Hid.mk (show ∀ w,Calls _ _ _ w _ from fun w=>zdL (w:=w) h1 h2 h3 h4)
 rw [hE] at HR1 ⊢
 clear h1 h2 h3 h4 hE
 go_enter Tryz.func35,Tryz.ntmps35
 go_wp2_with fail
 refine Calls.mono (HR1.out _) ?_
 rintro e w1 ⟨q1,q2,q3,q4,rfl,i1,i2,i3,i4,_⟩
 go_wp2_with fail
 go_ret
 exact ⟨rfl,zaa⟩
end
section
variable {w:World} {x y:Rat × Rat} {k:Nat}
theorem zk7 {E:Int} {a b:List UInt8} (h:E ≠ 0):Calls Tryz.prog 16 #[spv [] [],.int .i64 E,.int .i64 E,spv a b] w (PRet w (.bool true)):=by
 have hb:(E == 0)=false:=by simpa using h
 have hb2:(E != 0)=true:=by simpa using h
 go_enter Tryz.func16,Tryz.ntmps16
 go_wp2_with fail
 go_ret
 exact ⟨rfl,zaa⟩
theorem zmR [d1:Sz x.1 k] [d2:Sz x.2 k] (hk:k <= 2 ^ 15):Calls Tryz.prog 16 #[spv (wLo x) (wHi x),.int .i64 (wE2 x),.int .i64 0,spanR x] w (PRet w (.bool true)):=by
 have HL:Hid (∀ w,Calls _ _ _ w _):=Hid.mk (fun w=>zh4 (x:=x) (k:=k) (w:=w) hk)
 by_cases hz:wE2 x=0
 ·obtain ⟨e1, e2⟩ := zeT hz
  have f1:wLo x=zad x.1:=by unfold wLo; rw [if_pos hz]; unfold wTxt; rw [if_pos]; unfold wE at e1; split at e1; assumption; cases e1
  have f2:wHi x=zad x.2:=by unfold wHi; rw [if_pos hz]; unfold wTxt; rw [if_pos]; unfold wE at e2; split at e2; assumption; cases e2
  rw [f1,f2,hz]
  rw [hz] at HL
  unfold spanR at HL ⊢
  generalize zad x.1=A at *
  generalize zad x.2=B at *
  clear hz e1 e2 f1 f2 hk
  go_enter Tryz.func16,Tryz.ntmps16
  go_wp2_with fail
  refine Calls.mono (HL.out _) ?_
  rintro e w1 ⟨rfl,hx1⟩
  go_wp2_with fail
  go_ret
  exact ⟨rfl,zaa⟩
 ·have f1 : wLo x = [] := if_neg hz
  have f2:wHi x=[]:=if_neg hz
  rw [f1,f2]
  obtain ⟨E,hE⟩:∃ E,wE2 x=E:=⟨_,rfl⟩
  rw [hE] at HL hz ⊢
  have hb:(E == 0)=false:=by simpa using hz
  have hb2:(E != 0)=true:=by simpa using hz
  unfold spanR at HL ⊢
  generalize zad x.1=A at *
  generalize zad x.2=B at *
  clear hz f1 f2 hE hk
  go_enter Tryz.func16,Tryz.ntmps16
  go_wp2_with fail
  refine Calls.mono (HL.out _) ?_
  rintro e w1 ⟨rfl,hx1⟩
  go_wp2_with fail
  go_ret
  exact ⟨rfl,zaa⟩
theorem zms {E:Int} {a b c d:List UInt8} (h:E ≠ 0):Calls Tryz.prog 40 #[bxv [] [] [] [],.int .i64 E,.int .i64 E,bxv a b c d] w (PRet w (.bool true)):=by
 have hb:(E == 0)=false:=by simpa using h
 have hb2:(E != 0)=true:=by simpa using h
 go_enter Tryz.func40,Tryz.ntmps40
 go_wp2_with fail
 go_ret
 exact ⟨rfl,zaa⟩
theorem zmr [d1:Sz x.1 k] [d2:Sz x.2 k] [d3:Sz y.1 k] [d4:Sz y.2 k] (hk:k <= 2 ^ 15):Calls Tryz.prog 40 #[bxv (bxA x y) (bxB x y) (bxC x y) (bxD x y),.int .i64 (bxE x y),.int .i64 0,bxR x y] w (PRet w (.bool true)):=by
 have HL:Hid (∀ w,Calls _ _ _ w _):=Hid.mk (fun w=>zi6 (x:=x) (y:=y) (k:=k) (w:=w) hk)
 by_cases hz:bxE x y=0
 ·obtain ⟨z1, z2⟩ := zeT hz
  obtain ⟨e1,e2⟩:=zeT z1
  obtain ⟨e3,e4⟩:=zeT z2
  have f1:bxA x y=zad x.1:=by unfold bxA; rw [if_pos hz]; unfold wLo; rw [if_pos z1]; unfold wTxt; rw [if_pos]; unfold wE at e1; split at e1; assumption; cases e1
  have f2:bxB x y=zad x.2:=by unfold bxB; rw [if_pos hz]; unfold wHi; rw [if_pos z1]; unfold wTxt; rw [if_pos]; unfold wE at e2; split at e2; assumption; cases e2
  have f3:bxC x y=zad y.1:=by unfold bxC; rw [if_pos hz]; unfold wLo; rw [if_pos z2]; unfold wTxt; rw [if_pos]; unfold wE at e3; split at e3; assumption; cases e3
  have f4:bxD x y=zad y.2:=by unfold bxD; rw [if_pos hz]; unfold wHi; rw [if_pos z2]; unfold wTxt; rw [if_pos]; unfold wE at e4; split at e4; assumption; cases e4
  rw [f1,f2,f3,f4,hz]
  rw [hz] at HL
  unfold bxR at HL ⊢
  generalize zad x.1=A at *
  generalize zad x.2=B at *
  generalize zad y.1=C at *
  generalize zad y.2=D at *
  clear hz z1 z2 e1 e2 e3 e4 f1 f2 f3 f4 hk
  go_enter Tryz.func40,Tryz.ntmps40
  go_wp2_with fail
  refine Calls.mono (HL.out _) ?_
  rintro e w1 ⟨rfl,hx1⟩
  go_wp2_with fail
  go_ret
  exact ⟨rfl,zaa⟩
 ·have f1 : bxA x y = [] := if_neg hz
  have f2:bxB x y=[]:=if_neg hz
  have f3:bxC x y=[]:=if_neg hz
  have f4:bxD x y=[]:=if_neg hz
  rw [f1,f2,f3,f4]
  obtain ⟨E,hE⟩:∃ E,bxE x y=E:=⟨_,rfl⟩
  rw [hE] at HL hz ⊢
  have hb:(E == 0)=false:=by simpa using hz
  have hb2:(E != 0)=true:=by simpa using hz
  unfold bxR at HL ⊢
  generalize zad x.1=A at *
  generalize zad x.2=B at *
  generalize zad y.1=C at *
  generalize zad y.2=D at *
  clear hz f1 f2 f3 f4 hE hk
  go_enter Tryz.func40,Tryz.ntmps40
  go_wp2_with fail
  refine Calls.mono (HL.out _) ?_
  rintro e w1 ⟨rfl,hx1⟩
  go_wp2_with fail
  go_ret
  exact ⟨rfl,zaa⟩
end
end
section
open Go.Sort Go.Lib
theorem rd_ok {l h:List UInt8} (hE:spE l h=0):zad (rdI l h).1=l/\zad (rdI l h).2=h/\Ord2 (rdI l h):=by
 unfold spE at hE
 split at hE
 ·rename_i h0
  obtain ⟨e1,e2⟩:=zeT h0
  split at hE
  ·cases hE
  ·rename_i hc
   exact ⟨zf8 e1,zf8 e2,⟨Rat.not_lt.1 (fun h=>hc (zf4.2 h))⟩⟩
 ·rename_i h0
  exact absurd hE h0
theorem box_o {T1 T2 T3 T4 P1 P2 P3 P4:List UInt8} {E:Int} {w:World} [h:BoxOk T1 T2 T3 T4 E P1 P2 P3 P4]:Calls Tryz.prog 40 #[bxv T1 T2 T3 T4,.int .i64 E,.int .i64 0,bxv P1 P2 P3 P4] w (PRet w (.bool true)):=h.out w
section
variable {a1 a2 a3 a4 b1 b2 b3 b4:List UInt8}
theorem bx_eq (h1:spE a1 a2=0) (h2:spE a3 a4=0):bxR (rdI a1 a2) (rdI a3 a4)=bxv a1 a2 a3 a4:=by
 obtain ⟨r1,r2,_⟩:=rd_ok h1
 obtain ⟨r3,r4,_⟩:=rd_ok h2
 show Value.agg #[str (zad (rdI a1 a2).1),str (zad (rdI a1 a2).2),str (zad (rdI a3 a4).1),str (zad (rdI a3 a4).2)]=_
 rw [r1,r2,r3,r4]
theorem zix (hE:spE2 a1 a2 a3 a4=0) (l:a1.length <= 60/\a2.length <= 60/\a3.length <= 60/\a4.length <= 60):∃ (T1 T2 T3 T4:List UInt8) (EC:Int) (P1 P2 P3 P4:List UInt8),
  (∀ (w:World) [Glo w],Calls Tryz.prog 36 #[bxv a1 a2 a3 a4] w (PRet w (.tuple #[bxv T1 T2 T3 T4,.int .i64 EC]))) /\
  (∀ w:World,Calls Tryz.prog 41 #[bxv a1 a2 a3 a4] w (PRet w (bxv P1 P2 P3 P4))) /\
  (∀ w:World,Calls Tryz.prog 40 #[bxv T1 T2 T3 T4,.int .i64 EC,.int .i64 0,bxv P1 P2 P3 P4] w (PRet w (.bool true))):=by
 obtain ⟨e1,e2⟩:=zeT hE
 obtain ⟨X,hX⟩:∃ X,rdI a1 a2=X:=⟨_,rfl⟩
 obtain ⟨Y,hY⟩:∃ Y,(-(rdI a3 a4).2,-(rdI a3 a4).1)=Y:=⟨_,rfl⟩
 have d1:Sz X.1 600:=by rw [<- hX]; infer_instance
 have d2:Sz X.2 600:=by rw [<- hX]; infer_instance
 have d3:Sz Y.1 600:=by rw [<- hY]; exact (inferInstance:Sz (-(rdI a3 a4).2) 600)
 have d4:Sz Y.2 600:=by rw [<- hY]; exact (inferInstance:Sz (-(rdI a3 a4).1) 600)
 refine ⟨bxA X Y,bxB X Y,bxC X Y,bxD X Y,bxE X Y,zad X.1,zad X.2,zad Y.1,zad Y.2,fun w _=>?_,fun w=>?_,fun w=>zmr (x:=X) (y:=Y) (k:=600) (by decide)⟩
 ·have h := zgb (a := a1) (b := a2) (c := a3) (d := a4) (w := w) (by omega) (by omega) (by omega) (by omega)
  rw [show conjV a1 a2 a3 a4 = .tuple #[bxv (bxA X Y) (bxB X Y) (bxC X Y) (bxD X Y),.int .i64 (bxE X Y)] by
   unfold conjV
   rw [if_pos hE,<- hX,<- hY]
   rfl] at h
  exact h
 ·have h := conj9_s (x := rdI a1 a2) (y := rdI a3 a4) (k := 600) (w := w) (by decide) (by decide)
  rw [bx_eq e1 e2,hX,hY] at h
  exact h
theorem zhP (hE:spE2 a1 a2 a3 a4=0) (l:a1.length <= 60/\a2.length <= 60/\a3.length <= 60/\a4.length <= 60):∃ (T1 T2:List UInt8) (EC:Int) (P1 P2:List UInt8),
  (∀ (w:World) [Glo w],Calls Tryz.prog 37 #[bxv a1 a2 a3 a4] w (PRet w (.tuple #[spv T1 T2,.int .i64 EC]))) /\
  (∀ w:World,Calls Tryz.prog 42 #[bxv a1 a2 a3 a4] w (PRet w (spv P1 P2))) /\
  (∀ w:World,Calls Tryz.prog 16 #[spv T1 T2,.int .i64 EC,.int .i64 0,spv P1 P2] w (PRet w (.bool true))):=by
 obtain ⟨e1,e2⟩:=zeT hE
 have o1:=(rd_ok e1).2.2
 have o2:=(rd_ok e2).2.2
 obtain ⟨Z,hZ⟩:∃ Z,addI (sqI (rdI a1 a2)) (sqI (rdI a3 a4))=Z:=⟨_,rfl⟩
 have d1:Sz Z.1 (600+600+(600+600)+1):=by rw [<- hZ]; infer_instance
 have d2:Sz Z.2 (600+600+(600+600)+1):=by rw [<- hZ]; infer_instance
 refine ⟨wLo Z,wHi Z,wE2 Z,zad Z.1,zad Z.2,fun w _=>?_,fun w=>?_,fun w=>zmR (x:=Z) (by decide)⟩
 ·have h := zmD (a := a1) (b := a2) (c := a3) (d := a4) (w := w) (by omega) (by omega) (by omega) (by omega)
  rw [show normV a1 a2 a3 a4 = .tuple #[spv (wLo Z) (wHi Z),.int .i64 (wE2 Z)] by
   unfold normV
   rw [if_pos hE,hZ]
   rfl] at h
  exact h
 ·have h := norm9_s (x := rdI a1 a2) (y := rdI a3 a4) (k := 600) (w := w) (by decide) (by decide)
  rw [bx_eq e1 e2,hZ] at h
  exact h
theorem znJ (hE:spE2 a1 a2 a3 a4=0) (hF:spE2 b1 b2 b3 b4=0) (l:a1.length <= 60/\a2.length <= 60/\a3.length <= 60/\a4.length <= 60) (m:b1.length <= 60/\b2.length <= 60/\b3.length <= 60/\b4.length <= 60):∃ (T1 T2 T3 T4:List UInt8) (EC:Int) (P1 P2 P3 P4:List UInt8),
  (∀ (w:World) [Glo w],Calls Tryz.prog 38 #[bxv a1 a2 a3 a4,bxv b1 b2 b3 b4] w (PRet w (.tuple #[bxv T1 T2 T3 T4,.int .i64 EC]))) /\
  (∀ w:World,Calls Tryz.prog 43 #[bxv a1 a2 a3 a4,bxv b1 b2 b3 b4] w (PRet w (bxv P1 P2 P3 P4))) /\
  (∀ w:World,Calls Tryz.prog 40 #[bxv T1 T2 T3 T4,.int .i64 EC,.int .i64 0,bxv P1 P2 P3 P4] w (PRet w (.bool true))):=by
 obtain ⟨e1,e2⟩:=zeT hE
 obtain ⟨e3,e4⟩:=zeT hF
 have o1:=(rd_ok e1).2.2
 have o2:=(rd_ok e2).2.2
 have o3:=(rd_ok e3).2.2
 have o4:=(rd_ok e4).2.2
 obtain ⟨X,hX⟩:∃ X,addI (rdI a1 a2) (rdI b1 b2)=X:=⟨_,rfl⟩
 obtain ⟨Y,hY⟩:∃ Y,addI (rdI a3 a4) (rdI b3 b4)=Y:=⟨_,rfl⟩
 have d1:Sz X.1 (600+600+1):=by rw [<- hX]; infer_instance
 have d2:Sz X.2 (600+600+1):=by rw [<- hX]; infer_instance
 have d3:Sz Y.1 (600+600+1):=by rw [<- hY]; infer_instance
 have d4:Sz Y.2 (600+600+1):=by rw [<- hY]; infer_instance
 refine ⟨bxA X Y,bxB X Y,bxC X Y,bxD X Y,bxE X Y,zad X.1,zad X.2,zad Y.1,zad Y.2,fun w _=>?_,fun w=>?_,fun w=>zmr (x:=X) (y:=Y) (by decide)⟩
 ·have h := zhs (a := a1) (b := a2) (c := a3) (d := a4) (e := b1) (f := b2) (g := b3) (h := b4) (w := w) (by omega) (by omega) (by omega) (by omega) (by omega) (by omega) (by omega) (by omega)
  rw [show onB addRe addIm a1 a2 a3 a4 b1 b2 b3 b4 = .tuple #[bxv (bxA X Y) (bxB X Y) (bxC X Y) (bxD X Y),.int .i64 (bxE X Y)] by
   unfold onB bxE8 addRe addIm
   rw [hE,hF,if_pos (show or2 0 0=0 from rfl),hX,hY]
   rfl] at h
  exact h
 ·have h := zmy (x := rdI a1 a2) (y := rdI a3 a4) (u := rdI b1 b2) (v := rdI b3 b4) (k := 600) (w := w) (by decide)
  rw [bx_eq e1 e2,bx_eq e3 e4,hX,hY] at h
  exact h
theorem zm4 (hE:spE2 a1 a2 a3 a4=0) (hF:spE2 b1 b2 b3 b4=0) (l:a1.length <= 60/\a2.length <= 60/\a3.length <= 60/\a4.length <= 60) (m:b1.length <= 60/\b2.length <= 60/\b3.length <= 60/\b4.length <= 60):∃ (T1 T2 T3 T4:List UInt8) (EC:Int) (P1 P2 P3 P4:List UInt8),
  (∀ (w:World) [Glo w],Calls Tryz.prog 39 #[bxv a1 a2 a3 a4,bxv b1 b2 b3 b4] w (PRet w (.tuple #[bxv T1 T2 T3 T4,.int .i64 EC]))) /\
  (∀ w:World,Calls Tryz.prog 44 #[bxv a1 a2 a3 a4,bxv b1 b2 b3 b4] w (PRet w (bxv P1 P2 P3 P4))) /\
  (∀ w:World,Calls Tryz.prog 40 #[bxv T1 T2 T3 T4,.int .i64 EC,.int .i64 0,bxv P1 P2 P3 P4] w (PRet w (.bool true))):=by
 obtain ⟨e1,e2⟩:=zeT hE
 obtain ⟨e3,e4⟩:=zeT hF
 have z:=zhM.size (x:=rdI a1 a2) (y:=rdI a3 a4) (u:=rdI b1 b2) (v:=rdI b3 b4)
 obtain ⟨X,hX⟩:∃ X,mulRe (rdI a1 a2) (rdI a3 a4) (rdI b1 b2) (rdI b3 b4)=X:=⟨_,rfl⟩
 obtain ⟨Y,hY⟩:∃ Y,mulIm (rdI a1 a2) (rdI a3 a4) (rdI b1 b2) (rdI b3 b4)=Y:=⟨_,rfl⟩
 rw [hX,hY] at z
 obtain ⟨⟨d1,d2⟩,d3,d4⟩:=z
 refine ⟨bxA X Y,bxB X Y,bxC X Y,bxD X Y,bxE X Y,zad X.1,zad X.2,zad Y.1,zad Y.2,fun w _=>?_,fun w=>?_,fun w=>zmr (x:=X) (y:=Y) (k:=5000) (by decide)⟩
 ·have h := zgl (a := a1) (b := a2) (c := a3) (d := a4) (e := b1) (f := b2) (g := b3) (h := b4) (w := w) (by omega) (by omega) (by omega) (by omega) (by omega) (by omega) (by omega) (by omega)
  rw [show onB mulRe mulIm a1 a2 a3 a4 b1 b2 b3 b4 = .tuple #[bxv (bxA X Y) (bxB X Y) (bxC X Y) (bxD X Y),.int .i64 (bxE X Y)] by
   unfold onB bxE8
   rw [hE,hF,if_pos (show or2 0 0=0 from rfl),hX,hY]
   rfl] at h
  exact h
 ·have h := zlG (x := rdI a1 a2) (y := rdI a3 a4) (u := rdI b1 b2) (v := rdI b3 b4) (k := 600) (w := w) (by decide)
  rw [bx_eq e1 e2,bx_eq e3 e4,hX,hY] at h
  exact h
end
end
section
open Go.Sort Go.Lib
section
variable {al ah bl bh:List UInt8}
theorem Sz.up {q:Rat} {a b:Nat} (h:Sz q a) (hab:a <= b):Sz q b:=⟨Nat.le_trans h.num hab,Nat.le_trans h.den hab⟩
end
end
section
open Go.ChangeShapes Go.WideShapes Go.ChangeAt Go.ChangeMaps
theorem zgq:Tryz.prog.cellsOf 22=1:=by kernel_rfl
theorem zf5:Tryz.prog.cellsOf 24=2:=by kernel_rfl
theorem ziD:Tryz.prog.cellsOf 50=4:=by kernel_rfl
set_option maxRecDepth 100000
section
variable {H:Type} {enc:TypeId × Value -> H} {W:World} {base fuel:Nat} {sp:Nat -> Bool} {held:Bool}
theorem zls {cs:List Value} {x:DataW H × List MemPlace} (h:DataW.trod enc Tryz.prog W base sp held fuel 24 cs=some x):
  ∃ s t:ByteArray,cs=[.string s,.string t]/\x=(.agg [.lit (.string s.data.toList),.lit (.string t.data.toList)],[])/\s.size <= maxLen/\t.size <= maxLen:=by
 obtain ⟨y0,y1,n,rfl,hl,h0,h1⟩:=trod_struct2 Tryz.underlying24 h
 rw [zf5] at hl
 match cs,hl with
 | [c0,c1],_=>
  obtain ⟨s,e0,rfl,w0⟩:=DataW.trod_string Tryz.underlying22 h0
  obtain ⟨t,e1,rfl,w1⟩:=DataW.trod_string Tryz.underlying22 h1
  simp [zgq] at e0 e1
  subst e0; subst e1
  exact ⟨s,t,rfl,rfl,w0,w1⟩
theorem zjR {r:Reach} {b0:Nat} {v:Value} {d:DataW H} {ps:List MemPlace} (hval:Value.okWide Tryz.prog W r b0 50 v) (hd:DataW.Trod enc Tryz.prog W base sp held 50 v d ps):
  ∃ a b c e:ByteArray,v = .agg #[.string a,.string b,.string c,.string e]/\d = .agg [.agg [.lit (.string a.data.toList),.lit (.string b.data.toList)],.agg [.lit (.string c.data.toList),.lit (.string e.data.toList)]]/\ps=[] /\
   a.size <= maxLen/\b.size <= maxLen/\c.size <= maxLen/\e.size <= maxLen:=by
 obtain ⟨cs,rfl,hn⟩:=okWide_struct Tryz.underlying50 hval
 obtain ⟨fuel,hf⟩:=hd
 obtain ⟨y0,y1,n,hx,hl,h0,h1⟩:=trod_struct2 Tryz.underlying50 hf
 obtain ⟨a,b,e0,rfl,w0,w1⟩:=zls h0
 obtain ⟨c,e,e1,rfl,w2,w3⟩:=zls h1
 rw [ziD] at hn
 obtain ⟨l⟩:=cs
 match l,hn with
 | [c0,c1,c2,c3],_=>
  simp [zf5,Value.cells] at e0 e1
  obtain ⟨rfl,rfl⟩:=e0
  obtain ⟨rfl,rfl⟩:=e1
  simp at hx
  exact ⟨a,b,c,e,rfl,hx.1,hx.2,w0,w1,w2,w3⟩
theorem zlb {s t:ByteArray} (n:Nat) (w0:s.size <= maxLen) (w1:t.size <= maxLen):DataW.trod enc Tryz.prog W base sp held (n+2) 24 [.string s,.string t]=some (.agg [.lit (.string s.data.toList),.lit (.string t.data.toList)],[]):=
 trod_struct2_mk (y0:=(.lit (.string s.data.toList),[])) (y1:=(.lit (.string t.data.toList),[])) Tryz.underlying24 (by rw [zf5]; rfl)
  (by
   show DataW.trod enc Tryz.prog W base sp held (n+1) 22 (([.string s,.string t].drop 0).take (Tryz.prog.cellsOf 22))=_
   rw [zgq]
   simp [DataW.trod,Tryz.underlying22,w0])
  (by
   show DataW.trod enc Tryz.prog W base sp held (n+1) 22 (([.string s,.string t].drop 1).take (Tryz.prog.cellsOf 22))=_
   rw [zgq]
   simp [DataW.trod,Tryz.underlying22,w1])
theorem zjG {a b c e:ByteArray} (w0:a.size <= maxLen) (w1:b.size <= maxLen) (w2:c.size <= maxLen) (w3:e.size <= maxLen):
  DataW.Trod enc Tryz.prog W base sp held 50 (.agg #[.string a,.string b,.string c,.string e]) (.agg [.agg [.lit (.string a.data.toList),.lit (.string b.data.toList)],.agg [.lit (.string c.data.toList),.lit (.string e.data.toList)]]) []:=
 ⟨0 + 2 + 1, trod_struct2_mk (y0 := (.agg [.lit (.string a.data.toList), .lit (.string b.data.toList)], [])) (y1 := (.agg [.lit (.string c.data.toList), .lit (.string e.data.toList)], [])) Tryz.underlying50 (by rw [ziD]; rfl)
  (by
   show DataW.trod enc Tryz.prog W base sp held (0+2) 24 (([.string a,.string b,.string c,.string e].drop 0).take (Tryz.prog.cellsOf 24))=_
   rw [zf5]
   exact zlb 0 w0 w1)
  (by
   show DataW.trod enc Tryz.prog W base sp held (0+2) 24 (([.string a,.string b,.string c,.string e].drop 2).take (Tryz.prog.cellsOf 24))=_
   rw [zf5]
   exact zlb 0 w2 w3)⟩
end
end
section
open Go.Sort Go.Lib
def wide8 (a1 a2 a3 a4 b1 b2 b3 b4:List UInt8):Bool:=[a1,a2,a3,a4,b1,b2,b3,b4].any fun x=>decide (60 < x.length)
theorem zgW {a1 a2 a3 a4 b1 b2 b3 b4:List UInt8} (h:wide8 a1 a2 a3 a4 b1 b2 b3 b4=false):(a1.length <= 60/\a2.length <= 60/\a3.length <= 60/\a4.length <= 60)/\(b1.length <= 60/\b2.length <= 60/\b3.length <= 60/\b4.length <= 60):=by
 unfold wide8 at h
 simp at h
 omega
section
variable {a1 a2 a3 a4 b1 b2 b3 b4:List UInt8} {w:World}
theorem zgh (HA:Hid zgf) [hg:Glo w] (h:wide8 a1 a2 a3 a4 b1 b2 b3 b4=true):
  Calls Tryz.prog 4 #[bxv a1 a2 a3 a4,bxv b1 b2 b3 b4] w (fun e w'=>e = .returned (.bool true)/\Below w.heap.size w w'):=by
 have HW:=Hid.mk h
 clear h
 go_enter Tryz.func4,Tryz.ntmps4
 go_wp2_with fail
 refine (HA.out _).mono ?_
 rintro e w1 ⟨rfl,hb1⟩
 have hx1:Nxt ((w.alloc (.cells #[str a1,str a2,str a3,str a4] 50)).alloc (.cells #[str b1,str b2,str b3,str b4] 50)) w1:=⟨hb1⟩
 have B1:Blk w1 w.heap.size 50 #[str a1,str a2,str a3,str a4]:=inferInstance
 have B2:Blk w1 (w.heap.size+1) 50 #[str b1,str b2,str b3,str b4]:=inferInstance
 have hw1:Nxt w w1:=zaa
 have hg1:Glo w1:=Glo.nxt (a:=w)
 clear hb1 hx1
 go_wp2_with fail
 refine Calls.mono (zgV (L:=[a1,a2,a3,a4,b1,b2,b3,b4]) rfl rfl (by omega)) ?_
 rw [show ([a1,a2,a3,a4,b1,b2,b3,b4].any fun x=>decide (60 < x.length))=true from HW.out]
 rintro e w2 ⟨rfl,hx2⟩
 have C1:Blk w2 w.heap.size 50 #[str a1,str a2,str a3,str a4]:=inferInstance
 have C2:Blk w2 (w.heap.size+1) 50 #[str b1,str b2,str b3,str b4]:=inferInstance
 have hw2:Nxt w w2:=zaa
 have hg2:Glo w2:=Glo.nxt (a:=w)
 clear B1 B2 hx2 hw1 hg1
 go_wp2_with fail
 refine (HA.out _).mono ?_
 rintro e w3 ⟨rfl,hb3⟩
 have hx3:Nxt w2 w3:=⟨hb3⟩
 clear hb3
 go_wp2_with fail
 go_ret
 exact ⟨rfl,(zaa:Nxt w w3).out⟩
theorem zgn (HA:Hid zgf) [hg:Glo w] (h:wide8 a1 a2 a3 a4 b1 b2 b3 b4=false) (h1:spE2 a1 a2 a3 a4 ≠ 0):
  Calls Tryz.prog 4 #[bxv a1 a2 a3 a4,bxv b1 b2 b3 b4] w (fun e w'=>e = .returned (.bool true)/\Below w.heap.size w w'):=by
 have HW:=Hid.mk h
 obtain ⟨⟨l1,l2,l3,l4⟩,l5,l6,l7,l8⟩:=zgW h
 have HCa:Hid (∀ w,Calls _ _ _ w _):=Hid.mk (fun w=>zf2 (a:=a1) (b:=a2) (c:=a3) (d:=a4) (w:=w) (by omega) (by omega) (by omega) (by omega))
 have HCb:Hid (∀ w,Calls _ _ _ w _):=Hid.mk (fun w=>zf2 (a:=b1) (b:=b2) (c:=b3) (d:=b4) (w:=w) (by omega) (by omega) (by omega) (by omega))
 have HNa:Hid (∀ w,Calls _ _ _ w _):=Hid.mk (fun w=>zge (a:=a1) (b:=a2) (c:=a3) (d:=a4) (w:=w) (by omega) (by omega) (by omega) (by omega))
 have HConj:Hid (∀ (w:World) [Glo w],Calls _ _ _ w _):=Hid.mk (fun w _=>zgb (a:=a1) (b:=a2) (c:=a3) (d:=a4) (w:=w) (by omega) (by omega) (by omega) (by omega))
 have HNorm:Hid (∀ (w:World) [Glo w],Calls _ _ _ w _):=Hid.mk (fun w _=>zmD (a:=a1) (b:=a2) (c:=a3) (d:=a4) (w:=w) (by omega) (by omega) (by omega) (by omega))
 have HAdd:Hid (∀ (w:World) [Glo w],Calls _ _ _ w _):=Hid.mk (fun w _=>zhs (a:=a1) (b:=a2) (c:=a3) (d:=a4) (e:=b1) (f:=b2) (g:=b3) (h:=b4) (w:=w) (by omega) (by omega) (by omega) (by omega) (by omega) (by omega) (by omega) (by omega))
 have HMul:Hid (∀ (w:World) [Glo w],Calls _ _ _ w _):=Hid.mk (fun w _=>zgl (a:=a1) (b:=a2) (c:=a3) (d:=a4) (e:=b1) (f:=b2) (g:=b3) (h:=b4) (w:=w) (by omega) (by omega) (by omega) (by omega) (by omega) (by omega) (by omega) (by omega))
 obtain ⟨E,hE⟩:∃ E,spE2 a1 a2 a3 a4=E:=⟨_,rfl⟩
 obtain ⟨F,hF⟩:∃ F,spE2 b1 b2 b3 b4=F:=⟨_,rfl⟩
 rw [hE] at h1
 have hO:or2 E F=E:=if_neg h1
 have h8:bxE8 a1 a2 a3 a4 b1 b2 b3 b4=E:=by unfold bxE8; rw [hE,hF,hO]
 rw [hE] at HCa HNa
 rw [hF] at HCb
 rw [show conjV a1 a2 a3 a4 = .tuple #[bxv [] [] [] [],.int .i64 E] by unfold conjV; rw [hE,if_neg h1]; rfl] at HConj
 rw [show normV a1 a2 a3 a4 = .tuple #[spv [] [],.int .i64 E] by unfold normV; rw [hE,if_neg h1]; rfl] at HNorm
 rw [show ∀ re im,onB re im a1 a2 a3 a4 b1 b2 b3 b4 = .tuple #[bxv [] [] [] [],.int .i64 E] from fun re im=>by unfold onB; rw [h8,if_neg h1]; rfl] at HAdd HMul
 have HO:=Hid.mk hO
 have HE0:=Hid.mk h1
 have k1:(E == 0)=false:=by simpa using h1
 have k2:(E != 0)=true:=by simpa using h1
 clear h h1 hE hF hO h8 l1 l2 l3 l4 l5 l6 l7 l8
 go_enter Tryz.func4,Tryz.ntmps4
 go_wp2_with fail
 refine (HA.out _).mono ?_
 rintro e w1 ⟨rfl,hb1⟩
 have hx1:Nxt ((w.alloc (.cells #[str a1,str a2,str a3,str a4] 50)).alloc (.cells #[str b1,str b2,str b3,str b4] 50)) w1:=⟨hb1⟩
 have B1:Blk w1 w.heap.size 50 #[str a1,str a2,str a3,str a4]:=inferInstance
 have B2:Blk w1 (w.heap.size+1) 50 #[str b1,str b2,str b3,str b4]:=inferInstance
 have hw1:Nxt w w1:=zaa
 have hg1:Glo w1:=Glo.nxt (a:=w)
 clear hb1 hx1
 go_wp2_with fail
 refine Calls.mono (zgV (L:=[a1,a2,a3,a4,b1,b2,b3,b4]) rfl rfl (by omega)) ?_
 rw [show ([a1,a2,a3,a4,b1,b2,b3,b4].any fun x=>decide (60 < x.length))=false from HW.out]
 rintro e w2 ⟨rfl,hx2⟩
 have C1:Blk w2 w.heap.size 50 #[str a1,str a2,str a3,str a4]:=inferInstance
 have C2:Blk w2 (w.heap.size+1) 50 #[str b1,str b2,str b3,str b4]:=inferInstance
 have hw2:Nxt w w2:=zaa
 have hg2:Glo w2:=Glo.nxt (a:=w)
 clear B1 B2 hx2 hw1 hg1
 go_wp2_with fail
 refine Calls.mono (HCa.out _) ?_
 rintro e w3 ⟨rfl,hx3⟩
 have hw3:Nxt w w3:=zaa
 have hg3:Glo w3:=Glo.nxt (a:=w)
 go_wp2_with fail
 refine Calls.mono (HNa.out _) ?_
 rintro e w4 ⟨rfl,hx4⟩
 have hw4:Nxt w w4:=zaa
 have hg4:Glo w4:=Glo.nxt (a:=w)
 go_wp2_with fail
 refine Calls.mono (HConj.out _) ?_
 rintro e w5 ⟨rfl,hx5⟩
 have hw5:Nxt w w5:=zaa
 have hg5:Glo w5:=Glo.nxt (a:=w)
 go_wp2_with fail
 refine Calls.mono (HNorm.out _) ?_
 rintro e w6 ⟨rfl,hx6⟩
 have hw6:Nxt w w6:=zaa
 have hg6:Glo w6:=Glo.nxt (a:=w)
 go_wp2_with fail
 refine Calls.mono (HAdd.out _) ?_
 rintro e w7 ⟨rfl,hx7⟩
 have hw7:Nxt w w7:=zaa
 have hg7:Glo w7:=Glo.nxt (a:=w)
 go_wp2_with fail
 refine Calls.mono (HMul.out _) ?_
 rintro e w8 ⟨rfl,hx8⟩
 have hw8:Nxt w w8:=zaa
 have hg8:Glo w8:=Glo.nxt (a:=w)
 go_wp2_with fail
 refine Calls.mono (HCb.out _) ?_
 rintro e w9 ⟨rfl,hx9⟩
 have hw9:Nxt w w9:=zaa
 go_wp2_with fail
 refine Calls.mono (zgd) ?_
 rw [HO.out]
 rintro e w10 ⟨rfl,hx10⟩
 have K1:Blk w10 w.heap.size 50 #[str a1,str a2,str a3,str a4]:=inferInstance
 have K2:Blk w10 (w.heap.size+1) 50 #[str b1,str b2,str b3,str b4]:=inferInstance
 have R1:Blk w10 w5.heap.size 50 #[str [],str [],str [],str []]:=inferInstance
 have R2:Blk w10 w6.heap.size 24 #[str [],str []]:=inferInstance
 have R3:Blk w10 w7.heap.size 50 #[str [],str [],str [],str []]:=inferInstance
 have R4:Blk w10 w8.heap.size 50 #[str [],str [],str [],str []]:=inferInstance
 have hw10:Nxt w w10:=zaa
 clear C1 C2 hx3 hx4 hx5 hx6 hx7 hx8 hx9 hx10 hw2 hw3 hw4 hw5 hw6 hw7 hw8 hw9 hg2 hg3 hg4 hg5 hg6 hg7 hg8
 generalize w5.heap.size=g1 at *
 generalize w6.heap.size=g2 at *
 generalize w7.heap.size=g3 at *
 generalize w8.heap.size=g4 at *
 go_wp2_with ((first | (go_at_call 40; refine Calls.mono (zms (a:=a1) (b:=a2) (c:=a3) (d:=a4) HE0.out) ?_; rintro e w11 ⟨rfl,hx11⟩) | (go_at_call 16; refine Calls.mono (zk7 (a:=a1) (b:=a2) HE0.out) ?_; rintro e w11 ⟨rfl,hx11⟩)))
 go_ret
 exact ⟨rfl,(zaa:Nxt w _).out⟩
theorem zgj (HA:Hid zgf) [hg:Glo w] (h:wide8 a1 a2 a3 a4 b1 b2 b3 b4=false) (h1:spE2 a1 a2 a3 a4=0) (h2:spE2 b1 b2 b3 b4 ≠ 0):
  Calls Tryz.prog 4 #[bxv a1 a2 a3 a4,bxv b1 b2 b3 b4] w (fun e w'=>e = .returned (.bool true)/\Below w.heap.size w w'):=by
 have HW:=Hid.mk h
 obtain ⟨l,m⟩:=zgW h
 obtain ⟨l1,l2,l3,l4⟩:=l
 obtain ⟨l5,l6,l7,l8⟩:=m
 have HCa:Hid (∀ w,Calls _ _ _ w _):=Hid.mk (fun w=>zf2 (a:=a1) (b:=a2) (c:=a3) (d:=a4) (w:=w) (by omega) (by omega) (by omega) (by omega))
 have HCb:Hid (∀ w,Calls _ _ _ w _):=Hid.mk (fun w=>zf2 (a:=b1) (b:=b2) (c:=b3) (d:=b4) (w:=w) (by omega) (by omega) (by omega) (by omega))
 have HNa:Hid (∀ w,Calls _ _ _ w _):=Hid.mk (fun w=>zge (a:=a1) (b:=a2) (c:=a3) (d:=a4) (w:=w) (by omega) (by omega) (by omega) (by omega))
 obtain ⟨c1,c2,c3,c4,EC,p1,p2,p3,p4,hc1,hc2,hc3⟩:=zix h1 ⟨l1,l2,l3,l4⟩
 obtain ⟨n1,n2,EN,q1,q2,hn1,hn2,hn3⟩:=zhP h1 ⟨l1,l2,l3,l4⟩
 have HConj:=Hid.mk hc1
 have HRC:=Hid.mk hc2
 have iC:BoxOk c1 c2 c3 c4 EC p1 p2 p3 p4:=⟨hc3⟩
 have HNorm:=Hid.mk hn1
 have HRN:=Hid.mk hn2
 have HSN:=Hid.mk hn3
 rw [h1] at HCa HNa
 have HAdd:Hid (∀ (w:World) [Glo w],Calls _ _ _ w _):=Hid.mk (fun w _=>zhs (a:=a1) (b:=a2) (c:=a3) (d:=a4) (e:=b1) (f:=b2) (g:=b3) (h:=b4) (w:=w) (by omega) (by omega) (by omega) (by omega) (by omega) (by omega) (by omega) (by omega))
 have HMul:Hid (∀ (w:World) [Glo w],Calls _ _ _ w _):=Hid.mk (fun w _=>zgl (a:=a1) (b:=a2) (c:=a3) (d:=a4) (e:=b1) (f:=b2) (g:=b3) (h:=b4) (w:=w) (by omega) (by omega) (by omega) (by omega) (by omega) (by omega) (by omega) (by omega))
 obtain ⟨F,hF⟩:∃ F,spE2 b1 b2 b3 b4=F:=⟨_,rfl⟩
 rw [hF] at h2
 have h8:bxE8 a1 a2 a3 a4 b1 b2 b3 b4=F:=by unfold bxE8; rw [h1,hF]; rfl
 rw [hF] at HCb
 rw [show ∀ re im,onB re im a1 a2 a3 a4 b1 b2 b3 b4 = .tuple #[bxv [] [] [] [],.int .i64 F] from fun re im=>by unfold onB; rw [h8,if_neg h2]; rfl] at HAdd HMul
 have HE0:=Hid.mk h2
 have k1:(F == 0)=false:=by simpa using h2
 have k2:(F != 0)=true:=by simpa using h2
 clear h h1 h2 hF h8 l1 l2 l3 l4 l5 l6 l7 l8 hc1 hc2 hc3 hn1 hn2 hn3
 go_enter Tryz.func4,Tryz.ntmps4
 go_wp2_with fail
 refine (HA.out _).mono ?_
 rintro e w1 ⟨rfl,hb1⟩
 have hx1:Nxt ((w.alloc (.cells #[str a1,str a2,str a3,str a4] 50)).alloc (.cells #[str b1,str b2,str b3,str b4] 50)) w1:=⟨hb1⟩
 have B1:Blk w1 w.heap.size 50 #[str a1,str a2,str a3,str a4]:=inferInstance
 have B2:Blk w1 (w.heap.size+1) 50 #[str b1,str b2,str b3,str b4]:=inferInstance
 have hw1:Nxt w w1:=zaa
 have hg1:Glo w1:=Glo.nxt (a:=w)
 clear hb1 hx1
 go_wp2_with fail
 refine Calls.mono (zgV (L:=[a1,a2,a3,a4,b1,b2,b3,b4]) rfl rfl (by omega)) ?_
 rw [show ([a1,a2,a3,a4,b1,b2,b3,b4].any fun x=>decide (60 < x.length))=false from HW.out]
 rintro e w2 ⟨rfl,hx2⟩
 have C1:Blk w2 w.heap.size 50 #[str a1,str a2,str a3,str a4]:=inferInstance
 have C2:Blk w2 (w.heap.size+1) 50 #[str b1,str b2,str b3,str b4]:=inferInstance
 have hw2:Nxt w w2:=zaa
 have hg2:Glo w2:=Glo.nxt (a:=w)
 clear B1 B2 hx2 hw1 hg1
 go_wp2_with fail
 refine Calls.mono (HCa.out _) ?_
 rintro e w3 ⟨rfl,hx3⟩
 have hw3:Nxt w w3:=zaa
 have hg3:Glo w3:=Glo.nxt (a:=w)
 go_wp2_with fail
 refine Calls.mono (HNa.out _) ?_
 rintro e w4 ⟨rfl,hx4⟩
 have hw4:Nxt w w4:=zaa
 have hg4:Glo w4:=Glo.nxt (a:=w)
 go_wp2_with fail
 refine Calls.mono (HConj.out _) ?_
 rintro e w5 ⟨rfl,hx5⟩
 have hw5:Nxt w w5:=zaa
 have hg5:Glo w5:=Glo.nxt (a:=w)
 go_wp2_with fail
 refine Calls.mono (HNorm.out _) ?_
 rintro e w6 ⟨rfl,hx6⟩
 have hw6:Nxt w w6:=zaa
 have hg6:Glo w6:=Glo.nxt (a:=w)
 go_wp2_with fail
 refine Calls.mono (HAdd.out _) ?_
 rintro e w7 ⟨rfl,hx7⟩
 have hw7:Nxt w w7:=zaa
 have hg7:Glo w7:=Glo.nxt (a:=w)
 go_wp2_with fail
 refine Calls.mono (HMul.out _) ?_
 rintro e w8 ⟨rfl,hx8⟩
 have hw8:Nxt w w8:=zaa
 have hg8:Glo w8:=Glo.nxt (a:=w)
 go_wp2_with fail
 refine Calls.mono (HCb.out _) ?_
 rintro e w9 ⟨rfl,hx9⟩
 have hw9:Nxt w w9:=zaa
 go_wp2_with fail
 refine Calls.mono (zgd) ?_
 rw [show or2 0 F=F from if_pos rfl]
 rintro e w10 ⟨rfl,hx10⟩
 have K1:Blk w10 w.heap.size 50 #[str a1,str a2,str a3,str a4]:=inferInstance
 have K2:Blk w10 (w.heap.size+1) 50 #[str b1,str b2,str b3,str b4]:=inferInstance
 have R1:Blk w10 w5.heap.size 50 #[str c1,str c2,str c3,str c4]:=inferInstance
 have R2:Blk w10 w6.heap.size 24 #[str n1,str n2]:=inferInstance
 have R3:Blk w10 w7.heap.size 50 #[str [],str [],str [],str []]:=inferInstance
 have R4:Blk w10 w8.heap.size 50 #[str [],str [],str [],str []]:=inferInstance
 have hw10:Nxt w w10:=zaa
 clear C1 C2 hx3 hx4 hx5 hx6 hx7 hx8 hx9 hx10 hw2 hw3 hw4 hw5 hw6 hw7 hw8 hw9 hg2 hg3 hg4 hg5 hg6 hg7 hg8
 generalize w5.heap.size=g1 at *
 generalize w6.heap.size=g2 at *
 generalize w7.heap.size=g3 at *
 generalize w8.heap.size=g4 at *
 go_wp2_with fail
 (refine Code.nameW ?_; intro W hW; have hu:undef=Value.tuple #[]:=rfl; first | (go_region_held3 (fun w'=>ButO W [] w') (exact zab) (((first | (go_at_call 41; refine Calls.mono (HRC.out _) ?_; rintro e v1 ⟨rfl,_⟩) | (go_at_call 42; refine Calls.mono (HRN.out _) ?_; rintro e v1 ⟨rfl,_⟩) | (go_at_call 40; refine Calls.mono (box_o) ?_; rintro e v1 ⟨rfl,_⟩) | (go_at_call 16; refine Calls.mono (HSN.out _) ?_; rintro e v1 ⟨rfl,_⟩))))) | fail)
 all_goals go_wp2_with (go_at_call 40; refine Calls.mono (zms (a:=a1) (b:=a2) (c:=a3) (d:=a4) HE0.out) ?_; rintro e w11 ⟨rfl,hx11⟩)
 all_goals go_ret
 all_goals exact ⟨rfl,(zaa:Nxt w _).out⟩
theorem zgu (HA:Hid zgf) [hg:Glo w] (h:wide8 a1 a2 a3 a4 b1 b2 b3 b4=false) (h1:spE2 a1 a2 a3 a4=0) (h2:spE2 b1 b2 b3 b4=0):
  Calls Tryz.prog 4 #[bxv a1 a2 a3 a4,bxv b1 b2 b3 b4] w (fun e w'=>e = .returned (.bool true)/\Below w.heap.size w w'):=by
 have HW:=Hid.mk h
 obtain ⟨l,m⟩:=zgW h
 obtain ⟨l1,l2,l3,l4⟩:=l
 obtain ⟨l5,l6,l7,l8⟩:=m
 have HCa:Hid (∀ w,Calls _ _ _ w _):=Hid.mk (fun w=>zf2 (a:=a1) (b:=a2) (c:=a3) (d:=a4) (w:=w) (by omega) (by omega) (by omega) (by omega))
 have HCb:Hid (∀ w,Calls _ _ _ w _):=Hid.mk (fun w=>zf2 (a:=b1) (b:=b2) (c:=b3) (d:=b4) (w:=w) (by omega) (by omega) (by omega) (by omega))
 have HNa:Hid (∀ w,Calls _ _ _ w _):=Hid.mk (fun w=>zge (a:=a1) (b:=a2) (c:=a3) (d:=a4) (w:=w) (by omega) (by omega) (by omega) (by omega))
 obtain ⟨c1,c2,c3,c4,EC,p1,p2,p3,p4,hc1,hc2,hc3⟩:=zix h1 ⟨l1,l2,l3,l4⟩
 obtain ⟨n1,n2,EN,q1,q2,hn1,hn2,hn3⟩:=zhP h1 ⟨l1,l2,l3,l4⟩
 have HConj:=Hid.mk hc1
 have HRC:=Hid.mk hc2
 have iC:BoxOk c1 c2 c3 c4 EC p1 p2 p3 p4:=⟨hc3⟩
 have HNorm:=Hid.mk hn1
 have HRN:=Hid.mk hn2
 have HSN:=Hid.mk hn3
 rw [h1] at HCa HNa
 obtain ⟨d1,d2,d3,d4,ED,r1,r2,r3,r4,hd1,hd2,hd3⟩:=znJ h1 h2 ⟨l1,l2,l3,l4⟩ ⟨l5,l6,l7,l8⟩
 obtain ⟨m1,m2,m3,m4,EM,s1,s2,s3,s4,hm1,hm2,hm3⟩:=zm4 h1 h2 ⟨l1,l2,l3,l4⟩ ⟨l5,l6,l7,l8⟩
 have HAdd:=Hid.mk hd1
 have HRA:=Hid.mk hd2
 have iA:BoxOk d1 d2 d3 d4 ED r1 r2 r3 r4:=⟨hd3⟩
 have HMul:=Hid.mk hm1
 have HRM:=Hid.mk hm2
 have iM:BoxOk m1 m2 m3 m4 EM s1 s2 s3 s4:=⟨hm3⟩
 rw [h2] at HCb
 clear h h1 h2 l1 l2 l3 l4 l5 l6 l7 l8 hc1 hc2 hc3 hn1 hn2 hn3 hd1 hd2 hd3 hm1 hm2 hm3
 go_enter Tryz.func4,Tryz.ntmps4
 go_wp2_with fail
 refine (HA.out _).mono ?_
 rintro e w1 ⟨rfl,hb1⟩
 have hx1:Nxt ((w.alloc (.cells #[str a1,str a2,str a3,str a4] 50)).alloc (.cells #[str b1,str b2,str b3,str b4] 50)) w1:=⟨hb1⟩
 have B1:Blk w1 w.heap.size 50 #[str a1,str a2,str a3,str a4]:=inferInstance
 have B2:Blk w1 (w.heap.size+1) 50 #[str b1,str b2,str b3,str b4]:=inferInstance
 have hw1:Nxt w w1:=zaa
 have hg1:Glo w1:=Glo.nxt (a:=w)
 clear hb1 hx1
 go_wp2_with fail
 refine Calls.mono (zgV (L:=[a1,a2,a3,a4,b1,b2,b3,b4]) rfl rfl (by omega)) ?_
 rw [show ([a1,a2,a3,a4,b1,b2,b3,b4].any fun x=>decide (60 < x.length))=false from HW.out]
 rintro e w2 ⟨rfl,hx2⟩
 have C1:Blk w2 w.heap.size 50 #[str a1,str a2,str a3,str a4]:=inferInstance
 have C2:Blk w2 (w.heap.size+1) 50 #[str b1,str b2,str b3,str b4]:=inferInstance
 have hw2:Nxt w w2:=zaa
 have hg2:Glo w2:=Glo.nxt (a:=w)
 clear B1 B2 hx2 hw1 hg1
 go_wp2_with fail
 refine Calls.mono (HCa.out _) ?_
 rintro e w3 ⟨rfl,hx3⟩
 have hw3:Nxt w w3:=zaa
 have hg3:Glo w3:=Glo.nxt (a:=w)
 go_wp2_with fail
 refine Calls.mono (HNa.out _) ?_
 rintro e w4 ⟨rfl,hx4⟩
 have hw4:Nxt w w4:=zaa
 have hg4:Glo w4:=Glo.nxt (a:=w)
 go_wp2_with fail
 refine Calls.mono (HConj.out _) ?_
 rintro e w5 ⟨rfl,hx5⟩
 have hw5:Nxt w w5:=zaa
 have hg5:Glo w5:=Glo.nxt (a:=w)
 go_wp2_with fail
 refine Calls.mono (HNorm.out _) ?_
 rintro e w6 ⟨rfl,hx6⟩
 have hw6:Nxt w w6:=zaa
 have hg6:Glo w6:=Glo.nxt (a:=w)
 go_wp2_with fail
 refine Calls.mono (HAdd.out _) ?_
 rintro e w7 ⟨rfl,hx7⟩
 have hw7:Nxt w w7:=zaa
 have hg7:Glo w7:=Glo.nxt (a:=w)
 go_wp2_with fail
 refine Calls.mono (HMul.out _) ?_
 rintro e w8 ⟨rfl,hx8⟩
 have hw8:Nxt w w8:=zaa
 have hg8:Glo w8:=Glo.nxt (a:=w)
 go_wp2_with fail
 refine Calls.mono (HCb.out _) ?_
 rintro e w9 ⟨rfl,hx9⟩
 have hw9:Nxt w w9:=zaa
 go_wp2_with fail
 refine Calls.mono (zgd) ?_
 rw [show or2 0 0=0 from rfl]
 rintro e w10 ⟨rfl,hx10⟩
 have K1:Blk w10 w.heap.size 50 #[str a1,str a2,str a3,str a4]:=inferInstance
 have K2:Blk w10 (w.heap.size+1) 50 #[str b1,str b2,str b3,str b4]:=inferInstance
 have R1:Blk w10 w5.heap.size 50 #[str c1,str c2,str c3,str c4]:=inferInstance
 have R2:Blk w10 w6.heap.size 24 #[str n1,str n2]:=inferInstance
 have R3:Blk w10 w7.heap.size 50 #[str d1,str d2,str d3,str d4]:=inferInstance
 have R4:Blk w10 w8.heap.size 50 #[str m1,str m2,str m3,str m4]:=inferInstance
 have hw10:Nxt w w10:=zaa
 clear C1 C2 hx3 hx4 hx5 hx6 hx7 hx8 hx9 hx10 hw2 hw3 hw4 hw5 hw6 hw7 hw8 hw9 hg2 hg3 hg4 hg5 hg6 hg7 hg8
 generalize w5.heap.size=g1 at *
 generalize w6.heap.size=g2 at *
 generalize w7.heap.size=g3 at *
 generalize w8.heap.size=g4 at *
 go_wp2_with fail
 (refine Code.nameW ?_; intro W hW; have hu:undef=Value.tuple #[]:=rfl; first | (go_region_held3 (fun w'=>ButO W [] w') (exact zab) (((first | (go_at_call 41; refine Calls.mono (HRC.out _) ?_; rintro e v1 ⟨rfl,_⟩) | (go_at_call 42; refine Calls.mono (HRN.out _) ?_; rintro e v1 ⟨rfl,_⟩) | (go_at_call 40; refine Calls.mono (box_o) ?_; rintro e v1 ⟨rfl,_⟩) | (go_at_call 16; refine Calls.mono (HSN.out _) ?_; rintro e v1 ⟨rfl,_⟩))))) | fail)
 all_goals go_wp2_with fail
 all_goals (refine Code.nameW ?_; intro W hW; have hu:undef=Value.tuple #[]:=rfl; first | (go_region_held3 (fun w'=>ButO W [] w') (exact zab) (((first | (go_at_call 43; refine Calls.mono (HRA.out _) ?_; rintro e v1 ⟨rfl,_⟩) | (go_at_call 44; refine Calls.mono (HRM.out _) ?_; rintro e v1 ⟨rfl,_⟩) | (go_at_call 40; refine Calls.mono (box_o) ?_; rintro e v1 ⟨rfl,_⟩))))) | fail)
 all_goals go_wp2_with fail
 all_goals go_ret
 all_goals exact ⟨rfl,(zaa:Nxt w _).out⟩
end
theorem ziZ (HA:Hid zgf) (a1 a2 a3 a4 b1 b2 b3 b4:List UInt8) (w:World) [hg:Glo w]:
  Calls Tryz.prog 4 #[bxv a1 a2 a3 a4,bxv b1 b2 b3 b4] w (fun e w'=>e = .returned (.bool true)/\Below w.heap.size w w'):=by
 by_cases h:wide8 a1 a2 a3 a4 b1 b2 b3 b4=true
 ·exact zgh HA h
 ·have h : wide8 a1 a2 a3 a4 b1 b2 b3 b4 = false := by simpa using h
  by_cases h1:spE2 a1 a2 a3 a4=0
  ·by_cases h2 : spE2 b1 b2 b3 b4 = 0
   ·exact zgu HA h h1 h2
   ·exact zgj HA h h1 h2
  ·exact zgn HA h h1
end
section
open Go.ChangeShapes Go.WideShapes Go.ChangeAt Go.ChangeMaps
theorem zh1 (os:Os) (started:os.Started) (H:Type) (enc:TypeId × Value -> H):
  ReturnsInHanded {} Tryz.checked os 4 .any (fun w args=>(Rows.numberBoxesSpec.pre enc Tryz.prog Tryz.f4 [] false w args/\laidMetH Tryz.prog laid3 w)/\sizedMet enc Tryz.prog Tryz.f4 (OpenSpec.ofChange Rows.numberBoxesSpec) false w args)
   (Rows.numberBoxesSpec.post enc Tryz.prog Tryz.f4 false true false false):=by
 refine returnsInHanded_of_change_and (C:=Tryz.checked) (X:=fun w _=>laidMetH Tryz.prog laid3 w) (fun _ _ _ hh h=>h.of_heap hh) own started (by kernel_rfl) Tryz.func4
  (ChangeSpec.witness_shaped (enc:=enc) (C:=Tryz.checked) (os:=os) (X:=fun w _=>laidMetH Tryz.prog laid3 w) false (World.doorLaid Tryz.prog 400 os) #[.agg #[.string ⟨#[]⟩,.string ⟨#[]⟩,.string ⟨#[]⟩,.string ⟨#[]⟩],.agg #[.string ⟨#[]⟩,.string ⟨#[]⟩,.string ⟨#[]⟩,.string ⟨#[]⟩]] 8 rfl (World.shaped_of_RefB (by kernel_rfl) (by kernel_rfl)) (by kernel_rfl) (by kernel_rfl) (by kernel_rfl) (znu os _)) ?_
 intro W base args ds gs before hval0 hW _ _ hL _
 have hval:∀ (j:Nat) t v,Tryz.f4.params[j]?=some t -> args[j]?=some v -> Value.okWide Tryz.prog W .any base t v:=hval0
 have hW':=hW
 obtain ⟨p,q,hA0,hV,rfl,hfz,hnd⟩:=hW
 have hA:DataW.TrodAll enc Tryz.prog W 0 (fun _=>true) true Tryz.f4.params.toList args.toList ds p:=hA0
 rw [Tryz.params4] at hA hval
 obtain ⟨v0,v1,d0,d1,p0,p1,rfl,rfl,rfl,h0,h1⟩:=trodAll_two hA
 obtain ⟨rfl,rfl⟩:=trodVars_none hV
 obtain ⟨p1,p2,p3,p4,rfl,rfl,rfl,u1,u2,u3,u4⟩:=zjR (hval 0 50 v0 rfl rfl) h0
 obtain ⟨q1,q2,q3,q4,rfl,rfl,rfl,u5,u6,u7,u8⟩:=zjR (hval 1 50 v1 rfl rfl) h1
 have hg:Glo W:=zjb hL
 clear hA0 hval0
 simp only [List.append_nil] at hW'
 refine (ziZ (Hid.mk zpy) p1.data.toList p2.data.toList p3.data.toList p4.data.toList q1.data.toList q2.data.toList q3.data.toList q4.data.toList W).mono fun e W' ⟨he,hb⟩=>?_
 subst he
 exact ⟨_,rfl,_,_,_,[],[],[],hW',trodAll_mk1 (shut_bool Tryz.underlying4 _),trodAll_mk2 (zjG u1 u2 u3 u4) (zjG u5 u6 u7 u8),rfl,hb.frame _,fun h=>by cases h⟩
end
end Go.Proofs.YtciabaaclnplnaaGreatDoor
