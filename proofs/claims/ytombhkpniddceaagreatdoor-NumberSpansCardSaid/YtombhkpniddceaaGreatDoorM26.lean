import Derived.Test.YtombhkpniddceaaGreatDoorM25
set_option maxHeartbeats 3200000
set_option linter.all false
namespace Go.Proofs.YtombhkpniddceaaGreatDoor
open Go.RowKit
def firstT:List Bool -> Int
 | [] => -1
 | true :: _=>0
 | false :: l=>if firstT l = -1 then -1 else firstT l+1
theorem zdz:∀ {l:List Bool},(∀ (j:Nat) (y:Bool),j < l.length -> l[j]?=some y -> y=false) -> firstT l = -1
 | [],_=>rfl
 | true :: l,h=>by have:=h 0 true (by simp) rfl; cases this
 | false :: l,h=>by
  have:=zdz (l:=l) (fun j y hj hy=>h (j+1) y (by simp; exact hj) (by simpa using hy))
  unfold firstT; rw [if_pos this]
theorem zfP:∀ {l:List Bool} {i:Nat},(∀ (j:Nat) (y:Bool),j < i -> l[j]?=some y -> y=false) -> l[i]?=some true -> firstT l=(i:Int)
 | [],_,_,h=>by simp at h
 | true :: l,0,_,_=>rfl
 | true :: l,i+1,h,_=>by have:=h 0 true (by omega) rfl; cases this
 | false :: l,0,_,h=>by simp at h
 | false :: l,i+1,h,h2=>by
  have:=zfP (l:=l) (i:=i) (fun j y hj hy=>h (j+1) y (by omega) (by simpa using hy)) (by simpa using h2)
  unfold firstT; rw [this,if_neg (by omega)]; omega
theorem zdy:∀ (l:List Bool),(firstT l = -1/\∀ (j:Nat) (y:Bool),l[j]?=some y -> y=false) ∨ (∃ i:Nat,firstT l=(i:Int)/\l[i]?=some true/\∀ (j:Nat) (y:Bool),j < i -> l[j]?=some y -> y=false)
 | [] => .inl ⟨rfl,fun j y h=>by simp at h⟩
 | true :: l => .inr ⟨0,rfl,rfl,fun j y h=>absurd h (by omega)⟩
 | false :: l=>by
  rcases zdy l with ⟨h1,h2⟩ | ⟨i,h1,h2,h3⟩
  ·refine .inl ⟨by unfold firstT; rw [if_pos h1], fun j y h => ?_⟩
   cases j with
   | zero=>simpa using h.symm
   | succ j=>exact h2 j y (by simpa using h)
  ·refine .inr ⟨i + 1, by unfold firstT; rw [h1, if_neg (by omega)]; omega, by simpa using h2, fun j y hj h => ?_⟩
   cases j with
   | zero=>simpa using h.symm
   | succ j=>exact h3 j y (by omega) (by simpa using h)
theorem zj2 {n:FuncId} {caps:Array Value} {A:Option Addr} {c k:Nat} {vs:List Value} {bs:List Bool} {w:World} (hrun:∀ (args:Array Value) (w:World),Sem.run Tryz.prog (callFunc n args) w = .ok (.enter n args) w)
  (hv:VAt w A vs) (hk:vs.length=k) (hE:bs.length=k) (hn:k < 2 ^ 40) (hcall:∀ (i:Nat) (v:Value) (x:Bool),vs[i]?=some v -> bs[i]?=some x -> ∀ wr,Nxt w wr -> Calls Tryz.prog n (#[v] ++ caps) wr (PRet wr (.bool x))):
  Calls Tryz.prog 193 #[.slice A k c,.func (.func n) #[] caps] w (PRet w (.int .i64 (firstT bs))):=by
 have HV:=zc hv; have HK:=zc hk; have HE:=zc hE; have HN:=zc hn; have HC:=zc hcall
 clear hv hk hE hn hcall
 go_enter Tryz.func193,Tryz.ntmps193
 go_wp2_with fail
 go_loopw [8] (fun s8 wr=>∃ i:Nat,s8 = .int .i64 (i:Int)/\i <= k/\(∀ (j:Nat) (y:Bool),j < i -> bs[j]?=some y -> y=false)/\Nxt w wr) (fun s8 _=>k - (intOf s8).toNat)
 case atStart=>exact ⟨0,rfl,Nat.zero_le _,fun _ _ h=>absurd h (by omega),zaa⟩
 case round=>
  obtain ⟨i,rfl,hi,hok,hd⟩:=hrel
  have HO:=zc hok
  clear hok
  by_cases hin:i < k
  ·have hlt : decide ((i : Int) < (k : Int)) = true := by simp; omega
   have hlt':(i:Int) < (k:Int):=by omega
   have hadd:IntKind.i64.wrap ((i:Int)+1)=((i+1:Nat):Int):=by have:=HN.out; rw [zx]; omega
   obtain ⟨v,hv⟩:∃ v,vs[i]?=some v:=⟨vs[i]'(by rw [HK.out]; exact hin),zg _⟩
   obtain ⟨x,hx⟩:∃ x,bs[i]?=some x:=⟨bs[i]'(by rw [HE.out]; exact hin),zg _⟩
   obtain ⟨ad,rfl,k1⟩:=HV.out i v hv
   have k3:wr.cell? (ad.add i)=some v:=zaB hd k1
   have hc:=HC.out i v x hv hx wr hd
   have HCI:=zc hc; have HX:=zc hx
   clear hv hx k1 hc
   cases x
   ·go_wp2_with fail
    refine zf HCI.out ?_
    rintro e w5 ⟨rfl,_⟩
    go_wp2_with fail
    go_roundw
    case rel=>exact ⟨i+1,rfl,hin,fun j y hj hy=>by
     rcases Nat.lt_or_ge j i with h | h
     ·exact HO.out j y h hy
     ·obtain rfl : j = i := by omega
      rw [HX.out] at hy; exact (zl hy).symm,zaa⟩
    case measure=>simp [intOf]; omega
   ·go_wp2_with fail
    refine zf HCI.out ?_
    rintro e w5 ⟨rfl,_⟩
    go_wp2_with fail
    go_ret
    exact ⟨by rw [zfP HO.out HX.out]; rfl,zaa⟩
  ·have hlt : decide ((i : Int) < (k : Int)) = false := by simp; omega
   have hlt':¬ (i:Int) < (k:Int):=by omega
   have hE:=HE.out
   go_wp2_with fail
   go_ret
   exact ⟨by rw [zdz (fun j y hj hy=>HO.out j y (by omega) hy)]; rfl,zaa⟩
theorem znc {n:FuncId} {caps:Array Value} {A:Option Addr} {c k:Nat} {vs:List Value} {bs:List Bool} {w:World} (hrun:∀ (args:Array Value) (w:World),Sem.run Tryz.prog (callFunc n args) w = .ok (.enter n args) w)
  (hv:VAt w A vs) (hk:vs.length=k) (hE:bs.length=k) (hn:k < 2 ^ 40) (hcall:∀ (i:Nat) (v:Value) (x:Bool),vs[i]?=some v -> bs[i]?=some x -> ∀ wr,Nxt w wr -> Calls Tryz.prog n (#[v] ++ caps) wr (PRet wr (.bool x))):
  Calls Tryz.prog 196 #[.slice A k c,.func (.func n) #[] caps] w (PRet w (.int .i64 (firstT bs))):=by
 have HV:=zc hv; have HK:=zc hk; have HE:=zc hE; have HN:=zc hn; have HC:=zc hcall
 clear hv hk hE hn hcall
 go_enter Tryz.func196,Tryz.ntmps196
 go_wp2_with fail
 go_loopw [8] (fun s8 wr=>∃ i:Nat,s8 = .int .i64 (i:Int)/\i <= k/\(∀ (j:Nat) (y:Bool),j < i -> bs[j]?=some y -> y=false)/\Nxt w wr) (fun s8 _=>k - (intOf s8).toNat)
 case atStart=>exact ⟨0,rfl,Nat.zero_le _,fun _ _ h=>absurd h (by omega),zaa⟩
 case round=>
  obtain ⟨i,rfl,hi,hok,hd⟩:=hrel
  have HO:=zc hok
  clear hok
  by_cases hin:i < k
  ·have hlt : decide ((i : Int) < (k : Int)) = true := by simp; omega
   have hlt':(i:Int) < (k:Int):=by omega
   have hadd:IntKind.i64.wrap ((i:Int)+1)=((i+1:Nat):Int):=by have:=HN.out; rw [zx]; omega
   obtain ⟨v,hv⟩:∃ v,vs[i]?=some v:=⟨vs[i]'(by rw [HK.out]; exact hin),zg _⟩
   obtain ⟨x,hx⟩:∃ x,bs[i]?=some x:=⟨bs[i]'(by rw [HE.out]; exact hin),zg _⟩
   obtain ⟨ad,rfl,k1⟩:=HV.out i v hv
   have k3:wr.cell? (ad.add i)=some v:=zaB hd k1
   have hc:=HC.out i v x hv hx wr hd
   have HCI:=zc hc; have HX:=zc hx
   clear hv hx k1 hc
   cases x
   ·go_wp2_with fail
    refine zf HCI.out ?_
    rintro e w5 ⟨rfl,_⟩
    go_wp2_with fail
    go_roundw
    case rel=>exact ⟨i+1,rfl,hin,fun j y hj hy=>by
     rcases Nat.lt_or_ge j i with h | h
     ·exact HO.out j y h hy
     ·obtain rfl : j = i := by omega
      rw [HX.out] at hy; exact (zl hy).symm,zaa⟩
    case measure=>simp [intOf]; omega
   ·go_wp2_with fail
    refine zf HCI.out ?_
    rintro e w5 ⟨rfl,_⟩
    go_wp2_with fail
    go_ret
    exact ⟨by rw [zfP HO.out HX.out]; rfl,zaa⟩
  ·have hlt : decide ((i : Int) < (k : Int)) = false := by simp; omega
   have hlt':¬ (i:Int) < (k:Int):=by omega
   have hE:=HE.out
   go_wp2_with fail
   go_ret
   exact ⟨by rw [zdz (fun j y hj hy=>HO.out j y (by omega) hy)]; rfl,zaa⟩
structure ElS where
 rows:List (List Int)
 piv:List Int
 fac:Int
def swapR (l:List (List Int)) (i j:Nat):List (List Int):=(l.set i (l.getD j [])).set j (l.getD i [])
def zcO (rows:List (List Int)) (next col:Nat):Int:=firstT ((rows.drop next).map fun row=>decide (row.getD col 0 ≠ 0))
def zdV (m:Nat) (s:ElS) (col:Nat):ElS:=
 if zcO s.rows s.piv.length col < 0 then s else
  ⟨zcR (swapR s.rows s.piv.length (s.piv.length+(zcO s.rows s.piv.length col).toNat)) s.piv.length col m s.fac,s.piv ++ [(col:Int)],((swapR s.rows s.piv.length (s.piv.length+(zcO s.rows s.piv.length col).toNat)).getD s.piv.length []).getD col 0⟩
def elGo (m:Nat) (rows:List (List Int)):Nat -> ElS
 | 0=>⟨rows,[],1⟩
 | c+1=>zdV m (elGo m rows c) c
def elW (b t:Nat):Nat:=2 ^ t * (b+2) - 2
theorem zns {b t:Nat}:elW b (t+1)=elW b t+elW b t+1+1:=by
 unfold elW
 have h:2 <= 2 ^ t * (b+2):=zo (by omega:2 <= b+2) (Nat.le_mul_of_pos_left _ (Nat.pow_pos (by omega)))
 rw [Nat.pow_succ,zw (2 ^ t) 2,Nat.mul_assoc]
 omega
theorem zdU {b t u:Nat} (h:t <= u):elW b t <= elW b u:=by
 unfold elW
 have:2 ^ t * (b+2) <= 2 ^ u * (b+2):=Nat.mul_le_mul_right _ (Nat.pow_le_pow_right (by omega) h)
 omega
structure SInv (r m b c:Nat) (s:ElS):Prop where
 rl:s.rows.length=r
 ml:∀ zs ∈ s.rows,zs.length=m
 pl:s.piv.length <= r
 pm:s.piv.length <= c
 pc:∀ x ∈ s.piv,0 <= x/\x < (c:Int)
 f0:s.fac ≠ 0
 fs:Wd s.fac (elW b s.piv.length)
 sz:∀ zs ∈ s.rows,∀ z ∈ zs,Wd z (elW b s.piv.length)
theorem zcT {l:List (List Int)} {i j:Nat}:(swapR l i j).length=l.length:=by simp [swapR]
theorem zjD {l:List (List Int)} {i j k:Nat} (hi:i < l.length) (hj:j < l.length):(swapR l i j)[k]?=if j=k then l[i]? else if i=k then l[j]? else l[k]?:=by
 unfold swapR
 rw [List.getElem?_set,List.getElem?_set,List.getD_eq_getElem?_getD,List.getD_eq_getElem?_getD,zg hi,zg hj]
 by_cases h1:j=k
 ·rw [if_pos h1,if_pos h1,if_pos (by simpa using h1 ▸ hj)]; rfl
 ·rw [if_neg h1, if_neg h1]
  by_cases h2:i=k
  ·rw [if_pos h2,if_pos h2,if_pos (h2 ▸ hi)]; rfl
  ·rw [if_neg h2,if_neg h2]
theorem zfb {l:List (List Int)} {i j:Nat} (hi:i < l.length) (hj:j < l.length) {zs:List Int} (h:zs ∈ swapR l i j):zs ∈ l:=by
 obtain ⟨k,hk⟩:=List.mem_iff_getElem?.1 h
 rw [zjD hi hj] at hk
 split at hk
 ·exact zk hk
 ·split at hk
  ·exact zk hk
  ·exact zk hk
theorem zbG {row:List Int} {a j:Nat} (h:∀ z ∈ row,Wd z a):Wd (row.getD j 0) a:=by
 rw [List.getD_eq_getElem?_getD]
 cases hj:row[j]? with
 | none=>exact ⟨by show wl 0 <= a; simp [wl,zao]⟩
 | some z=>exact h z (zk hj)
theorem zml {row prow:List Int} {P M B:Int} {m a:Nat} (h1:∀ z ∈ row,Wd z a) (h2:∀ z ∈ prow,Wd z a) (hP:Wd P a) (hM:Wd M a) (hB:B ≠ 0):∀ z ∈ zcQ row prow P M B m,Wd z (a+a+1+1):=by
 intro z hz
 unfold zcQ at hz
 obtain ⟨j,_,rfl⟩:=List.mem_map.1 hz
 have i1:=zbG (j:=j) h1
 have i2:=zbG (j:=j) h2
 have m1:Wd (row.getD j 0 * P) (a+a):=za
 have m2:Wd (prow.getD j 0 * M) (a+a):=za
 have m3:Wd (row.getD j 0 * P - prow.getD j 0 * M) (a+a+1):=⟨by
  rw [Int.sub_eq_add_neg]
  refine zo (zar (Int.natAbs_add_le _ _)) (zo (zhx _ _) ?_)
  rw [Int.natAbs_neg]
  have:=m1.out; have:=m2.out; omega⟩
 exact za
theorem zgM (rows:List (List Int)) (next col:Nat):zcO rows next col = -1 ∨ ∃ f:Nat,zcO rows next col=(f:Int)/\next+f < rows.length/\(rows.getD (next+f) []).getD col 0 ≠ 0:=by
 unfold zcO
 rcases zdy ((rows.drop next).map fun (row:List Int)=>decide (row.getD col 0 ≠ 0)) with ⟨h,_⟩ | ⟨i,h,h2,_⟩
 ·exact .inl h
 ·refine .inr ⟨i, h, ?_⟩
  rw [List.getElem?_map,List.getElem?_drop] at h2
  cases hr:rows[next+i]? with
  | none=>rw [hr] at h2; cases h2
  | some row=>
   rw [hr] at h2
   have h3:decide (row.getD col 0 ≠ 0)=true:=by simpa using h2
   exact ⟨(zh.1 hr).1,by rw [za3 hr]; exact of_decide_eq_true h3⟩
theorem zfT {m:Nat} {s:ElS} {col f:Nat} (h:zcO s.rows s.piv.length col=(f:Int)):zdV m s col=⟨zcR (swapR s.rows s.piv.length (s.piv.length+f)) s.piv.length col m s.fac,s.piv ++ [(col:Int)],((swapR s.rows s.piv.length (s.piv.length+f)).getD s.piv.length []).getD col 0⟩:=by
 unfold zdV
 rw [h,if_neg (by omega)]
 rfl
theorem zdB {m:Nat} {s:ElS} {col:Nat} (h:zcO s.rows s.piv.length col = -1):zdV m s col=s:=by
 unfold zdV
 rw [h,if_pos (by omega)]
theorem zgR {zss:List (List Int)} {p col m:Nat} {B:Int} (hp:p < zss.length) {zs:List Int} (h:zs ∈ zcR zss p col m B):zs=zss.getD p [] ∨ ∃ i,i < zss.length/\zs=zcQ (zss.getD i []) (zss.getD p []) ((zss.getD p []).getD col 0) ((zss.getD i []).getD col 0) B m:=by
 unfold zcR at h
 obtain ⟨i,hi,rfl⟩:=List.mem_map.1 h
 have hi':i < zss.length:=by simpa using hi
 by_cases e:i=p
 ·rw [if_pos e]; exact .inl rfl
 ·rw [if_neg e]; exact .inr ⟨i,hi',rfl⟩
theorem zcc {zss:List (List Int)} {i:Nat} (h:i < zss.length):zss.getD i [] ∈ zss:=by
 rw [List.getD_eq_getElem?_getD,zg h]
 exact List.getElem_mem h
theorem SInv.step {r m b c:Nat} {s:ElS} (h:SInv r m b c s) (hc:c < m):SInv r m b (c+1) (zdV m s c):=by
 rcases zgM s.rows s.piv.length c with hn | ⟨f,hf,hlt,hne⟩
 ·rw [zdB hn]
  exact ⟨h.rl,h.ml,h.pl,by have:=h.pm; omega,fun x hx=>⟨(h.pc x hx).1,by have:=(h.pc x hx).2; omega⟩,h.f0,h.fs,h.sz⟩
 ·rw [zfT hf]
  have hp:s.piv.length < s.rows.length:=by omega
  have hsw:∀ zs ∈ swapR s.rows s.piv.length (s.piv.length+f),zs ∈ s.rows:=fun zs hz=>zfb hp hlt hz
  have hsl:(swapR s.rows s.piv.length (s.piv.length+f)).length=r:=by rw [zcT]; exact h.rl
  have hps:s.piv.length < (swapR s.rows s.piv.length (s.piv.length+f)).length:=by rw [zcT]; exact hp
  have hpiv:(swapR s.rows s.piv.length (s.piv.length+f)).getD s.piv.length []=s.rows.getD (s.piv.length+f) []:=by
   rw [List.getD_eq_getElem?_getD,zjD hp hlt,List.getD_eq_getElem?_getD]
   by_cases e:s.piv.length+f=s.piv.length
   ·rw [if_pos e,e]
   ·rw [if_neg e,if_pos rfl]
  have hlen:(s.piv ++ [(c:Int)]).length=s.piv.length+1:=by simp
  have hwp:Wd (((swapR s.rows s.piv.length (s.piv.length+f)).getD s.piv.length []).getD c 0) (elW b s.piv.length):=zbG (h.sz _ (hsw _ (zcc hps)))
  refine ⟨by simp only [zcR,List.length_map,List.length_range]; exact hsl,?_,?_,?_,?_,?_,?_,?_⟩
  ·intro zs hz
   rcases zgR hps hz with rfl | ⟨i,_,rfl⟩
   ·exact h.ml _ (hsw _ (zcc hps))
   ·exact zcM
  ·simp only [hlen]; rw [<- h.rl]; omega
  ·simp only [hlen]; have:=h.pm; omega
  ·intro x hx
   rcases List.mem_append.1 hx with hx | hx
   ·exact ⟨(h.pc x hx).1,by have:=(h.pc x hx).2; omega⟩
   ·rw [List.mem_singleton.1 hx]; omega
  ·show ((swapR s.rows s.piv.length (s.piv.length + f)).getD s.piv.length []).getD c 0 ≠ 0
   rw [hpiv]; exact hne
  ·show Wd _ (elW b (s.piv ++ [(c : Int)]).length)
   rw [hlen]
   exact ⟨zo hwp.out (zdU (by omega))⟩
  ·intro zs hz z hzz
   show Wd z (elW b (s.piv ++ [(c:Int)]).length)
   rw [hlen,zns]
   rcases zgR hps hz with rfl | ⟨i,hi,rfl⟩
   ·exact ⟨zo (h.sz _ (hsw _ (zcc hps)) z hzz).out (by omega)⟩
   ·exact zml (h.sz _ (hsw _ (zcc hi))) (h.sz _ (hsw _ (zcc hps))) hwp (zbG (h.sz _ (hsw _ (zcc hi)))) h.f0 z hzz
theorem SInv.go {r m b:Nat} {rows:List (List Int)} (hr:rows.length=r) (hm:∀ zs ∈ rows,zs.length=m) (hb:1 <= b) (hs:∀ zs ∈ rows,∀ z ∈ zs,Wd z b):∀ c,c <= m -> SInv r m b c (elGo m rows c)
 | 0,_=>⟨hr,hm,Nat.zero_le _,Nat.zero_le _,fun x hx=>(by cases hx),(by show (1:Int) ≠ 0; decide),⟨by show wl 1 <= _; rw [za1]; simp [elW,elGo]; omega⟩,fun zs hz z hzz=>⟨zo (hs zs hz z hzz).out (by simp [elW,elGo])⟩⟩
 | c+1,h=>(SInv.go hr hm hb hs c (by omega)).step (by omega)
def OwnI (w:World) (v:Value) (l:List Int):Prop:=(v = .slice none 0 0/\l=[]) ∨ ∃ (g:Nat) (tl:List Int),v = .slice (some ⟨g,0,none⟩) l.length (l.length+tl.length)/\l.length+tl.length <= maxLen/\Blk w g 3 (zae (l ++ tl))
theorem zfM {l:List Int} {i:Nat}:zaj (zae l) i:=⟨fun u e=>by
 simp only [zae,List.getElem?_toArray,List.getElem?_map,Option.map_eq_some_iff] at e
 obtain ⟨x,_,e⟩:=e
 injection e with e
 cases e⟩
theorem OwnI.nxt {w w':World} {v:Value} {l:List Int} (h:OwnI w v l) (hn:Nxt w w'):OwnI w' v l:=by
 rcases h with h | ⟨g,tl,hv,hm,hb⟩
 ·exact .inl h
 ·exact .inr ⟨g,tl,hv,hm,Blk.nxt⟩
theorem OwnI.but {W w':World} {v:Value} {l:List Int} {rs:List Nat} (h:OwnI W v l) (k:But W rs w') (hr:∀ g,v.ownBlock=some g -> g ∉ rs):OwnI w' v l:=by
 rcases h with h | ⟨g,tl,rfl,hm,hb⟩
 ·exact .inl h
 ·exact .inr ⟨g,tl,rfl,hm,⟨(k.block g hb.lt (hr g rfl)).trans hb.out⟩⟩
theorem OwnI.set_ {w:World} {v x:Value} {l:List Int} {g j:Nat} {t:TypeId} {vs:Array Value} (h:OwnI w v l) (hb:Blk w g t vs) (ht:3 ≠ t):OwnI (w.setCell ⟨g,j,none⟩ x) v l:=by
 rcases h with h | ⟨g1,tl,rfl,hm,h1⟩
 ·exact .inl h
 ·refine .inr ⟨g1, tl, rfl, hm, Blk.far (k := h1) (h := ⟨fun e => ?_⟩)⟩
  subst e
  have:=h1.out.symm.trans hb.out
  injection this with this
  injection this with _ this
  exact ht this
theorem OwnI.at_ {w:World} {A:Option Addr} {k c:Nat} {l:List Int} (h:OwnI w (.slice A k c) l):l.length=k/\∀ (i:Nat) (x:Int),l[i]?=some x -> ∃ g,A=some ⟨g,0,none⟩/\w.cell? ⟨g,i,none⟩=some (.int .i64 x):=by
 rcases h with ⟨h,rfl⟩ | ⟨g,tl,h,_,hb⟩
 ·injection h with h1 h2 h3
  exact ⟨h2.symm,fun i x hx=>by simp at hx⟩
 ·injection h with h1 h2 h3
  subst h1
  exact ⟨h2.symm,fun i x hx=>⟨g,rfl,zav hb (by rw [List.getElem?_append_left (zh.1 hx).1]; exact hx)⟩⟩
theorem OwnI.form {w:World} {v:Value} {l:List Int} (h:OwnI w v l):∃ A c,v = .slice A l.length c:=by
 rcases h with ⟨rfl,rfl⟩ | ⟨g,tl,rfl,_⟩
 ·exact ⟨_,_,rfl⟩
 ·exact ⟨_,_,rfl⟩
theorem OwnI.form2 {w:World} {v:Value} {l:List Int} (h:OwnI w v l):∃ A n c,v = .slice A n c/\n=l.length:=by
 obtain ⟨A,c,rfl⟩:=h.form
 exact ⟨_,_,_,rfl,rfl⟩
theorem OwnI.words {w:World} {v:Value} {l:List Int} (h:OwnI w v l):∀ g,v.ownBlock=some g -> ∃ vs:Array Value,Blk w g 3 vs/\∀ i,zaj vs i:=by
 intro g hg
 rcases h with ⟨rfl,_⟩ | ⟨g1,tl,rfl,_,hb⟩
 ·cases hg
 ·obtain rfl : g1 = g := by simpa [Value.ownBlock] using hg
  exact ⟨_,hb,fun i=>zfM⟩
theorem NatIs.grownI {w w':World} {v pv:Value} {n:Nat} {l:List Int} (h:NatIs w v n) (k:OwnI w pv l) (hg:w.grownBy w' pv.ownBlock):NatIs w' v n:=by
 obtain ⟨A,c,e,h1,h2,h3⟩:=h
 refine ⟨A,c,e,h1,h2,h3.lt,fun j u hu=>?_⟩
 obtain ⟨ad,e,hl,hc⟩:=h3.at_ j u hu
 refine ⟨ad,e,Nat.lt_of_lt_of_le hl hg.size,hg.cell hc ?_⟩
 rw [zaw]
 intro hb
 obtain ⟨vs,hv,hw⟩:=k.words _ hb.symm
 have hbk:(ad.add j).block=ad.block:=zaw _ _
 unfold World.cell? at hc
 rw [hbk,hv.out] at hc
 simp only at hc
 have h:=hc
 simp at h
 exact (hw _).out _ h.2
theorem IntIs.grownI {w w':World} {v pv:Value} {z:Int} {l:List Int} (h:IntIs w v z) (k:OwnI w pv l) (hg:w.grownBy w' pv.ownBlock):IntIs w' v z:=by
 obtain ⟨m,e,hm⟩:=h
 exact ⟨m,e,hm.grownI k hg⟩
theorem za4 {w w':World} {g:Nat} {t:TypeId} {vs:Array Value} {pv:Value} {l:List Int} (b:Blk w g t vs) (k:OwnI w pv l) (hg:w.grownBy w' pv.ownBlock) (ht:3 ≠ t):Blk w' g t vs:=⟨by
 rw [hg.block g b.lt (fun e=>by
  obtain ⟨us,hu,_⟩:=k.words _ e.symm
  have:=hu.out.symm.trans b.out
  injection this with this
  injection this with _ this
  exact ht this)]
 exact b.out⟩
theorem ze2 (k:Nat):Builtin.zeroCells (Value.int .i64 0).cells k=zae (List.replicate k 0):=by
 simp only [Builtin.zeroCells,zae,Value.cells,List.map_replicate]
 apply Array.ext_getElem?
 intro j
 by_cases hj:j < k
 ·simp [hj,Nat.mod_one]
 ·simp [hj]
theorem zhX {α : Type} (a:List α) (x y : α) (b:List α):List.take a.length (a ++ y :: b) ++ [x] ++ List.drop (a.length+1) (a ++ y :: b)=a ++ [x] ++ b:=by
 induction a with
 | nil=>simp
 | cons h t ih=>
  simp only [List.cons_append,List.length_cons,List.take_succ_cons,List.drop_succ_cons]
  rw [<- ih]
theorem zgt (w:World) (v:Value) (l:List Int) (hown:OwnI w v l) (ad:Addr) (c:Nat) (z:Int) (ty:TypeId) (hc:w.cell? ad=some (.int .i64 z)) (hl:l.length < 2 ^ 30):
  ∃ v' w',(Builtin.append_ #[91,91] ty #[v,.slice (some ad) 1 c]).run Tryz.prog w = .ok v' w'/\OwnI w' v' (l ++ [z])/\w.grownBy w' v.ownBlock/\(∀ g,v'.ownBlock=some g -> v.ownBlock=some g ∨ w.heap.size <= g):=by
 obtain ⟨i0,hi0,hz0,hz1,hz2⟩:=info_parts zg9
 have hnews:∀ (j:Nat) (u:Value),[Value.int .i64 z][j]?=some u -> w.cell? (ad.add j)=some u:=by
  intro j u hu
  cases j with
  | zero=>
   obtain rfl:Value.int .i64 z=u:=by simpa using hu
   rw [show ad.add 0=ad by unfold Addr.add; simp]; exact hc
  | succ j=>simp at hu
 rcases hown with ⟨rfl,rfl⟩ | ⟨g,tl,rfl,hm,hb⟩
 ·have hr := run_append_nil (P := Tryz.prog) w 91 ty 3 i0 (.int .i64 0) Tryz.underlying91 hi0 hz0 ad 1 c [.int .i64 z] (by rw [hz1]; rfl) hnews (by omega) (by omega) (by rw [hz2]; omega)
  have hge:=grownCap_ge w 1 0 3
  have hcm:grownCap w 1 0 3 <= maxLen:=grownCap_le_maxLen w 1 0 3 (by unfold maxLen; omega)
  refine ⟨_,_,hr,.inr ⟨w.heap.size,List.replicate (grownCap w 1 0 3 - 1) 0,?_,?_,?_⟩,⟨rfl,rfl,rfl,by simp,fun k hk _=>heap_alloc_old w.drew _ hk⟩,fun g hg => .inr ?_⟩
  ·simp; omega
  ·simp; omega
  ·rw [ze2]
   have e:[Value.int .i64 z].toArray ++ zae (List.replicate (grownCap w 1 0 3 - 1) 0)=zae ([] ++ [z] ++ List.replicate (grownCap w 1 0 3 - 1) 0):=by simp [zae]
   rw [e]
   exact ⟨heap_alloc_new w.drew _⟩
  ·have : w.heap.size = g := by simpa [Value.ownBlock] using hg
   omega
 ·cases tl with
  | nil=>
   have holds:∀ (j:Nat) (u:Value),(l.map fun z=>Value.int .i64 z)[j]?=some u -> w.cell? ((⟨g,0,none⟩:Addr).add j)=some u:=by
    intro j u hu
    rw [List.getElem?_map] at hu
    cases hj:l[j]? with
    | none=>rw [hj] at hu; cases hu
    | some x=>
     rw [hj] at hu
     obtain rfl:=zl hu
     have:=zav hb (i:=j) (x:=x) (by simpa using hj)
     have e:(⟨g,0,none⟩:Addr).add j=⟨g,j,none⟩:=by unfold Addr.add; split <;> simp_all
     rw [e]; exact this
   have hr:=run_append_grow (P:=Tryz.prog) w 91 ty 3 i0 (.int .i64 0) Tryz.underlying91 hi0 hz0 ⟨g,0,none⟩ l.length l.length (l.map fun z=>Value.int .i64 z) (by rw [hz1]; simp) holds ad 1 c [.int .i64 z] (by rw [hz1]; rfl) hnews (by omega) (by omega) (growslice_fits (by omega) (by rw [hz2]; omega))
   have hge:=grownCap_ge w (l.length+1) l.length 3
   have hcm:grownCap w (l.length+1) l.length 3 <= maxLen:=grownCap_le_maxLen w (l.length+1) l.length 3 (by unfold maxLen; omega)
   refine ⟨_,_,hr,.inr ⟨w.heap.size,List.replicate (grownCap w (l.length+1) l.length 3 - (l.length+1)) 0,?_,?_,?_⟩,⟨rfl,rfl,rfl,by simp,fun k hk _=>heap_alloc_old w.drew _ hk⟩,fun g hg => .inr ?_⟩
   ·simp; omega
   ·simp; omega
   ·rw [ze2]
    have e:(l.map fun z=>Value.int .i64 z).toArray ++ [Value.int .i64 z].toArray ++ zae (List.replicate (grownCap w (l.length+1) l.length 3 - (l.length+1)) 0)=zae (l ++ [z] ++ List.replicate (grownCap w (l.length+1) l.length 3 - (l.length+1)) 0):=by simp [zae]
    rw [e]
    exact ⟨heap_alloc_new w.drew _⟩
   ·have : w.heap.size = g := by simpa [Value.ownBlock] using hg
    omega
  | cons y tl=>
   have hsz:(zae (l ++ y :: tl)).size=l.length+(tl.length+1):=by simp [zae]
   have hr:=run_append_room (P:=Tryz.prog) w 91 ty 3 i0 Tryz.underlying91 hi0 g l.length (l.length+(y :: tl).length) (zae (l ++ y :: tl)) hb.out ad 1 c [.int .i64 z] (by rw [hz1]; rfl) hnews (by intro u hu; rw [List.mem_singleton.1 hu]; rfl) (by simp) (by rw [hz1,hsz]; simp only [List.length_singleton,Nat.mul_one]; omega)
   refine ⟨_,_,hr,.inr ⟨g,tl,?_,?_,⟨?_⟩⟩,⟨rfl,rfl,rfl,by simp [World.setRow],fun k _ hk=>setRow_other w g k _ (fun e=>hk (by simp [Value.ownBlock,e]))⟩,fun g' hg' => .inl hg'⟩
   ·simp; omega
   ·rw [List.length_append,List.length_singleton]; rw [List.length_cons] at hm; omega
   ·rw [setRow_heap w g _ _ 3 _ hb.out, hz1]
    have e:(List.take (l.length * 1) (zae (l ++ y :: tl)).toList ++ [Value.int .i64 z] ++ List.drop (l.length * 1+[Value.int .i64 z].length) (zae (l ++ y :: tl)).toList)=(l ++ [z] ++ tl).map fun z=>Value.int .i64 z:=by
     have h:=zhX (l.map fun z=>Value.int .i64 z) (Value.int .i64 z) (Value.int .i64 y) (tl.map fun z=>Value.int .i64 z)
     rw [List.length_map] at h
     simp only [zae,Nat.mul_one,List.map_append,List.map_cons,List.map_nil,List.length_singleton]
     exact h
    rw [e]
    rfl
theorem zam {w:World} {ops:Array Oper} {rest:List Oper} {o:Oper} {a:Act} {Q:Exit -> Act -> World -> Prop} (hgd:o.guard=none) (s x:Operand)
  (ho:o.op = .call { callee := .builtin .append,args:=#[s,x],argTypes:=#[91,91] }) (v:Value) (l:List Int) (hs:a.eval s=v) (hown:OwnI w v l)
  (ad:Addr) (c:Nat) (z:Int) (hx:a.eval x = .slice (some ad) 1 c) (hc:w.cell? ad=some (.int .i64 z)) (hl:l.length < 2 ^ 30)
  (h:∀ v' w',OwnI w' v' (l ++ [z]) -> w.grownBy w' v.ownBlock -> (∀ g,v'.ownBlock=some g -> v.ownBlock=some g ∨ w.heap.size <= g) -> wpList Tryz.prog ops Q rest (a.put o.dst v') w'):wpList Tryz.prog ops Q (o :: rest) a w:=by
 refine wpList_plain hgd fun K hK=>?_
 obtain ⟨v',w',hr,h2,h3,h4⟩:=zgt w v l hown ad c z o.type hc hl
 unfold Oper.wp execOp
 simp only [ho,resolve,invoke,builtin,Sem.run_bind,Sem.run_pure,Result.andThen_ok,List.map_toArray,List.map_cons,List.map_nil,hs,hx,hr]
 exact hK _ _ (h v' w' h2 h3 h4)
end Go.Proofs.YtombhkpniddceaaGreatDoor
