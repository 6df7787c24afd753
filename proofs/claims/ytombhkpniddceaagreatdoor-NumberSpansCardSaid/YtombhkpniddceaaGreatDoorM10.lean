import Derived.Test.YtombhkpniddceaaGreatDoorM09
set_option maxHeartbeats 1600000
set_option linter.all false
namespace Go.Proofs.YtombhkpniddceaaGreatDoor
open Go.RowKit
def decL:List UInt8 -> Bool
 | []=>false
 | c :: t => !(c == 48 && !t.isEmpty) && (c :: t).all fun b=>decide (48 <= b.toNat) && decide (b.toNat <= 57)
theorem zd0 {l:List UInt8} (h0:l[0]?=some 48) (h1:1 < l.length):decL l=false:=by
 match l,h0,h1 with
 | c :: d :: t,h0,_=>
  obtain rfl:c=48:=by simpa using h0
  simp [decL]
theorem zj8 {l:List UInt8} (hne:l ≠ []) (h:¬ (l[0]?=some 48/\1 < l.length)):decL l=true ↔ ∀ j (hj:j < l.length),48 <= l[j].toNat/\l[j].toNat <= 57:=by
 match l,hne,h with
 | c :: t,_,h=>
  have hl:(!(c == 48 && !t.isEmpty))=true:=by
   cases t with
   | nil=>simp
   | cons d t=>simp at h ⊢; exact h
  rw [show decL (c :: t)=(!(c == 48 && !t.isEmpty) && (c :: t).all fun b=>decide (48 <= b.toNat) && decide (b.toNat <= 57)) from rfl,hl,Bool.true_and,List.all_eq_true]
  constructor
  ·intro h j hj
   have:=h _ (List.getElem_mem hj)
   simpa using this
  ·intro h b hb
   obtain ⟨j,hj,rfl⟩:=List.getElem_of_mem hb
   have:=h j hj
   simpa using this
theorem isDecimal_c {s:ByteArray} {w:World} (HS:Hid (s.size < 2 ^ 62)):
  Calls Tryz.prog 159 #[.string s] w (PRet w (.bool (decL s.data.toList))):=by
 by_cases hemp:s.size=0
 ·obtain ⟨⟨l⟩⟩ := s
  obtain rfl:l=[]:=by
   cases l with
   | nil=>rfl
   | cons c t=>simp [ByteArray.size] at hemp
  go_enter Tryz.func159,Tryz.ntmps159
  go_wp2_with fail
  go_ret
  exact ⟨rfl,zaa⟩
 ·have he:(s == ⟨#[]⟩)=false:=by
   obtain ⟨⟨l⟩⟩:=s
   cases l with
   | nil=>exact absurd rfl hemp
   | cons c t=>rfl
  have h0:(0:Int) < (s.size:Int):=by omega
  have h0':0 < s.size:=by omega
  have hl:s.toList ≠ []:=by
   rw [ByteArray.toList_eq]
   intro h
   have h2:s.data.toList.length=0:=by rw [h]; rfl
   have h4:s.data.size=0:=by simpa using h2
   exact hemp h4
  have hle:s.toList.isEmpty=false:=by simpa using hl
  clear hemp
  obtain ⟨c,hc⟩:∃ c,s[0]=c:=⟨_,rfl⟩
  have hconv:=run_bytes_of_string (P:=Tryz.prog) w 9 235 5 s Tryz.underlying9 Tryz.underlying235 Tryz.underlying5
  by_cases hA:c=48/\1 < s.size
  ·obtain ⟨rfl, h1⟩ := hA
   have hdA:decL s.data.toList=false:=zd0 (by
    have h2:s.data[0]?=some s[0]:=by rw [Array.getElem?_eq_getElem h0']; rfl
    rw [hc] at h2; simpa using h2) (by simpa using h1)
   have h1':decide ((1:Int) < (s.size:Int))=true:=by simp; omega
   have h1'':(1:Int) < (s.size:Int):=by omega
   go_enter Tryz.func159,Tryz.ntmps159
   go_wp2_with fail
   go_ret
   exact ⟨by rw [hdA]; rfl,zaa⟩
  ·have hdec:decL s.data.toList=true ↔ ∀ j (hj:j < s.data.size),48 <= s.data[j].toNat/\s.data[j].toNat <= 57:=by
    have h2:s.data[0]?=some c:=by rw [Array.getElem?_eq_getElem h0',<- hc]; rfl
    have h3:=zj8 (l:=s.data.toList) (by
     intro h; have:s.data.toList.length=0:=by rw [h]; rfl
     have h4:s.data.size=0:=by simpa using this
     have:s.size=s.data.size:=rfl
     omega) (by
     rintro ⟨h4,h5⟩
     apply hA
     rw [Array.getElem?_toList,h2] at h4
     exact ⟨by simpa using h4,by simpa using h5⟩)
    simpa using h3
   by_cases hB:c=48
   ·subst hB
    have hsz:¬ 1 < s.size:=fun h=>hA ⟨rfl,h⟩
    have h1':decide ((1:Int) < (s.size:Int))=false:=by simp; omega
    have h1'':¬ (1:Int) < (s.size:Int):=by omega
    clear hA
    go_enter Tryz.func159,Tryz.ntmps159
    go_wp2_with fail
    have hcell:∀ i (hi:i < s.data.size),(w.alloc (Obj.cells (bytesRow s (grownCap w s.size 0 5)) 5 ((bytesRow s (grownCap w s.size 0 5)).size,(bytesRow s (grownCap w s.size 0 5)).size+1))).cell? ⟨w.heap.size,i,none⟩=some (.int .u8 (s.data[i].toNat:Int)):=by
     intro i hi
     rw [World.cell?_alloc_mark]
     exact bytesRow_at s _ i hi
    have hbe:Nxt w (w.alloc (Obj.cells (bytesRow s (grownCap w s.size 0 5)) 5 ((bytesRow s (grownCap w s.size 0 5)).size,(bytesRow s (grownCap w s.size 0 5)).size+1))):=zaa
    generalize (w.alloc (Obj.cells (bytesRow s (grownCap w s.size 0 5)) 5 ((bytesRow s (grownCap w s.size 0 5)).size,(bytesRow s (grownCap w s.size 0 5)).size+1)))=W at *
    have HC:=zc hcell
    have HD:=zc hdec
    clear hcell hconv hdec
    go_loopw [20] (fun s20 wr=>∃ i:Nat,s20 = .int .i64 (i:Int)/\i <= s.size/\(∀ j (hj:j < s.data.size),j < i -> 48 <= s.data[j].toNat/\s.data[j].toNat <= 57)/\wr=W.drew) (fun s20 _=>s.size - (intOf s20).toNat)
    case atStart=>exact ⟨0,rfl,Nat.zero_le _,fun _ _ h=>absurd h (by omega),rfl⟩
    case round=>
     obtain ⟨i,rfl,hi,hok,rfl⟩:=hrel
     have HO:=zc hok
     clear hok
     by_cases hin:i < s.size
     ·have hid : i < s.data.size := hin
      have hlt:decide ((i:Int) < (s.size:Int))=true:=by simp; omega
      have hlt':(i:Int) < (s.size:Int):=by omega
      have hcx:=HC.out i hid
      obtain ⟨x,hx⟩:∃ x,s.data[i].toNat=x:=⟨_,rfl⟩
      rw [hx] at hcx
      have HX:=zc hx
      clear hx
      by_cases hx1:x < 48
      ·have hx1' : decide ((x : Int) < 48) = true := by simp; omega
       have hx1'':(x:Int) < 48:=by omega
       go_wp2_with fail
       go_ret
       exact ⟨by rw [show decL s.data.toList=false from Bool.eq_false_iff.2 (fun h=>by have:=(HD.out.1 h i hid).1; rw [HX.out] at this; omega)]; rfl,zaa⟩
      ·have hx1' : decide ((x : Int) < 48) = false := by simp; omega
       have hx1'':¬ (x:Int) < 48:=by omega
       by_cases hx2:57 < x
       ·have hx2' : decide ((57 : Int) < (x : Int)) = true := by simp; omega
        have hx2'':(57:Int) < (x:Int):=by omega
        go_wp2_with fail
        go_ret
        exact ⟨by rw [show decL s.data.toList=false from Bool.eq_false_iff.2 (fun h=>by have:=(HD.out.1 h i hid).2; rw [HX.out] at this; omega)]; rfl,zaa⟩
       ·have hx2' : decide ((57 : Int) < (x : Int)) = false := by simp; omega
        have hx2'':¬ (57:Int) < (x:Int):=by omega
        have hadd:IntKind.i64.wrap ((i:Int)+1)=((i+1:Nat):Int):=by have:=HS.out; rw [zx]; omega
        go_wp2_with fail
        go_roundw
        case rel=>exact ⟨i+1,rfl,hin,fun j hj hji=>by
         rcases Nat.lt_or_ge j i with h | h
         ·exact HO.out j hj h
         ·obtain rfl : j = i := by omega
          rw [HX.out]; omega,by first | rfl | trivial⟩
        case measure=>simp [intOf]; omega
     ·have hlt : decide ((i : Int) < (s.size : Int)) = false := by simp; omega
      have hlt':¬ (i:Int) < (s.size:Int):=by omega
      go_wp2_with fail
      go_ret
      exact ⟨by rw [HD.out.2 (fun j hj=>HO.out j hj (by have:j < s.size:=hj; omega))]; rfl,zaa⟩
   ·have hcn:((c.toNat:Int) == 48)=false:=by
     simp; intro h; apply hB; exact UInt8.toNat.inj (by show c.toNat=48; omega)
    have hcn':¬ ((c.toNat:Int)=48):=by simpa using hcn
    clear hA hB
    go_enter Tryz.func159,Tryz.ntmps159
    go_wp2_with fail
    have hcell:∀ i (hi:i < s.data.size),(w.alloc (Obj.cells (bytesRow s (grownCap w s.size 0 5)) 5 ((bytesRow s (grownCap w s.size 0 5)).size,(bytesRow s (grownCap w s.size 0 5)).size+1))).cell? ⟨w.heap.size,i,none⟩=some (.int .u8 (s.data[i].toNat:Int)):=by
     intro i hi
     rw [World.cell?_alloc_mark]
     exact bytesRow_at s _ i hi
    have hbe:Nxt w (w.alloc (Obj.cells (bytesRow s (grownCap w s.size 0 5)) 5 ((bytesRow s (grownCap w s.size 0 5)).size,(bytesRow s (grownCap w s.size 0 5)).size+1))):=zaa
    generalize (w.alloc (Obj.cells (bytesRow s (grownCap w s.size 0 5)) 5 ((bytesRow s (grownCap w s.size 0 5)).size,(bytesRow s (grownCap w s.size 0 5)).size+1)))=W at *
    have HC:=zc hcell
    have HD:=zc hdec
    clear hcell hconv hdec
    go_loopw [20] (fun s20 wr=>∃ i:Nat,s20 = .int .i64 (i:Int)/\i <= s.size/\(∀ j (hj:j < s.data.size),j < i -> 48 <= s.data[j].toNat/\s.data[j].toNat <= 57)/\wr=W.drew) (fun s20 _=>s.size - (intOf s20).toNat)
    case atStart=>exact ⟨0,rfl,Nat.zero_le _,fun _ _ h=>absurd h (by omega),rfl⟩
    case round=>
     obtain ⟨i,rfl,hi,hok,rfl⟩:=hrel
     have HO:=zc hok
     clear hok
     by_cases hin:i < s.size
     ·have hid : i < s.data.size := hin
      have hlt:decide ((i:Int) < (s.size:Int))=true:=by simp; omega
      have hlt':(i:Int) < (s.size:Int):=by omega
      have hcx:=HC.out i hid
      obtain ⟨x,hx⟩:∃ x,s.data[i].toNat=x:=⟨_,rfl⟩
      rw [hx] at hcx
      have HX:=zc hx
      clear hx
      by_cases hx1:x < 48
      ·have hx1' : decide ((x : Int) < 48) = true := by simp; omega
       have hx1'':(x:Int) < 48:=by omega
       go_wp2_with fail
       go_ret
       exact ⟨by rw [show decL s.data.toList=false from Bool.eq_false_iff.2 (fun h=>by have:=(HD.out.1 h i hid).1; rw [HX.out] at this; omega)]; rfl,zaa⟩
      ·have hx1' : decide ((x : Int) < 48) = false := by simp; omega
       have hx1'':¬ (x:Int) < 48:=by omega
       by_cases hx2:57 < x
       ·have hx2' : decide ((57 : Int) < (x : Int)) = true := by simp; omega
        have hx2'':(57:Int) < (x:Int):=by omega
        go_wp2_with fail
        go_ret
        exact ⟨by rw [show decL s.data.toList=false from Bool.eq_false_iff.2 (fun h=>by have:=(HD.out.1 h i hid).2; rw [HX.out] at this; omega)]; rfl,zaa⟩
       ·have hx2' : decide ((57 : Int) < (x : Int)) = false := by simp; omega
        have hx2'':¬ (57:Int) < (x:Int):=by omega
        have hadd:IntKind.i64.wrap ((i:Int)+1)=((i+1:Nat):Int):=by have:=HS.out; rw [zx]; omega
        go_wp2_with fail
        go_roundw
        case rel=>exact ⟨i+1,rfl,hin,fun j hj hji=>by
         rcases Nat.lt_or_ge j i with h | h
         ·exact HO.out j hj h
         ·obtain rfl : j = i := by omega
          rw [HX.out]; omega,by first | rfl | trivial⟩
        case measure=>simp [intOf]; omega
     ·have hlt : decide ((i : Int) < (s.size : Int)) = false := by simp; omega
      have hlt':¬ (i:Int) < (s.size:Int):=by omega
      go_wp2_with fail
      go_ret
      exact ⟨by rw [HD.out.2 (fun j hj=>HO.out j hj (by have:j < s.size:=hj; omega))]; rfl,zaa⟩
def zac (l:List UInt8):Nat:=l.foldl (fun a b=>10 * a+(b.toNat - 48)) 0
theorem znh (m:List UInt8):∀ a:Nat,m.foldl (fun a b=>10 * a+(b.toNat - 48)) a=a * 10 ^ m.length+zac m:=by
 induction m with
 | nil=>intro a; simp [zac]
 | cons b t ih=>
  intro a
  have h1:=ih (10 * a+(b.toNat - 48))
  have h2:=ih (b.toNat - 48)
  have h3:zac (b :: t)=t.foldl (fun a b=>10 * a+(b.toNat - 48)) (b.toNat - 48):=by simp [zac]
  rw [h3,h2,List.foldl_cons,h1,List.length_cons,Nat.pow_succ,Nat.add_mul]
  have:10 * a * 10 ^ t.length=a * (10 ^ t.length * 10):=by rw [zw 10 a,Nat.mul_assoc,zw 10]
  omega
theorem zbQ (l m:List UInt8):zac (l ++ m)=zac l * 10 ^ m.length+zac m:=by
 rw [zac,List.foldl_append,znh]; rfl
theorem zcL (l:List UInt8) (b:UInt8):zac (l ++ [b])=10 * zac l+(b.toNat - 48):=by
 rw [zbQ]; simp [zac]; omega
def Digs (l:List UInt8):Prop:=∀ b ∈ l,48 <= b.toNat/\b.toNat <= 57
theorem zbc:∀ {l:List UInt8},Digs l -> zac l < 10 ^ l.length:=by
 intro l
 induction l with
 | nil=>intro _; simp [zac]
 | cons b t ih=>
  intro h
  have h1:=ih (fun x hx=>h x (by simp [hx]))
  have h2:=h b (by simp)
  rw [show b :: t=[b] ++ t from rfl,zbQ]
  have h3:zac [b] <= 9:=by simp [zac]; omega
  have h4:zac [b] * 10 ^ t.length <= 9 * 10 ^ t.length:=Nat.mul_le_mul_right _ h3
  simp [Nat.pow_succ] at *
  omega
def zae (ws:List Int):Array Value:=(ws.map fun z=>Value.int .i64 z).toArray
theorem zav {w:World} {g i:Nat} {t:TypeId} {ws:List Int} {x:Int} (h:Blk w g t (zae ws)) (hx:ws[i]?=some x):w.cell? ⟨g,i,none⟩=some (.int .i64 x):=
 (Blk.cell (k:=h) (i:=i)).trans (by simp [zae,hx])
theorem zbs {w:World} {g i:Nat} {t:TypeId} {ws:List Int} {x:Int} (h:Blk w g t (zae ws)):Blk (w.setCell ⟨g,i,none⟩ (.int .i64 x)) g t (zae (ws.set i x)):=
 Blk.set_ (k:=h) (h:=⟨by simp [zae,List.map_set]⟩)
theorem zg9:(Tryz.prog.info? 3).map (fun i=>(i.zero,i.size,i.bytes))=some (some (.int .i64 0),1,8):=by kernel_rfl
theorem zdc (n:Nat) (hn:n <= 2 ^ 40) (w:World):
  (Instr.makeSlice 91 (.int .i64 (n:Int)) (.int .i64 (n:Int))).run Tryz.prog w = .ok (.slice (some ⟨w.heap.size,0,none⟩) n n) (w.alloc (.cells (zae (List.replicate n 0)) 3)):=by
 obtain ⟨i0,hi0,hz0,hz1,hz2⟩:=info_parts zg9
 rw [run_make (P:=Tryz.prog) w 91 3 i0 (.int .i64 0) Tryz.underlying91 hi0 hz0 .i64 .i64 n n (by omega) (by omega) (by rw [hz2]; omega) (by omega)]
 have e:madeCells (Value.int .i64 0).cells ((n:Int).toNat * i0.size)=zae (List.replicate n 0):=by
  rw [hz1]
  simp only [madeCells,zae,Value.cells,Int.toNat_natCast,Nat.mul_one,List.map_replicate]
  apply Array.ext_getElem?
  intro k
  by_cases hk:k < n
  ·simp [hk,Nat.mod_one]
  ·simp [hk]
 rw [e]
 simp
def cur (n i:Nat):List Int:=(List.range n).map fun j=>if j < i then (j:Int) else 0
theorem znB (n:Nat):cur n 0=List.replicate n 0:=by
 apply List.ext_getElem
 ·simp [cur]
 ·intro k h1 h2; simp [cur]
theorem cur_get {n i:Nat} (h:i < n):(cur n i)[i]?=some 0:=by simp [cur,h]
theorem cur_set {n i:Nat}:(cur n i).set i (i:Int)=cur n (i+1):=by
 apply List.ext_getElem
 ·simp [cur]
 ·intro k h1 h2
  simp only [cur,List.getElem_set,List.getElem_map,List.getElem_range]
  by_cases hk:i=k
  ·subst hk; simp
  ·rw [if_neg hk]
   by_cases h3:k < i
   ·rw [if_pos h3,if_pos (by omega)]
   ·rw [if_neg h3,if_neg (by omega)]
theorem cur_all (n:Nat):cur n n=(List.range n).map fun (j:Nat)=>(j:Int):=by
 apply List.ext_getElem
 ·simp [cur]
 ·intro k h1 h2
  have:k < n:=by simpa [cur] using h1
  simp [cur,this]
theorem zjz (n:Nat) (hn:n <= 2 ^ 30) (w:World):
  Calls Tryz.prog 110 #[.int .i64 (n:Int)] w fun e w'=>e = .returned (.slice (some ⟨w.heap.size,0,none⟩) n n)/\Blk w' w.heap.size 3 (zae ((List.range n).map fun (j:Nat)=>(j:Int)))/\Nxt w w':=by
 have hmk:∀ w,(Instr.makeSlice 91 (.int .i64 (n:Int)) (.int .i64 (n:Int))).run Tryz.prog w = .ok (.slice (some ⟨w.heap.size,0,none⟩) n n) (w.alloc (.cells (zae (List.replicate n 0)) 3)):=zdc n (by omega)
 have HN:=zc hn
 clear hn
 go_enter Tryz.func110,Tryz.ntmps110
 go_wp2_with fail
 have h0:Blk (w.alloc (.cells (zae (List.replicate n 0)) 3)) w.heap.size 3 (zae (cur n 0)):=by rw [znB]; exact Blk.new
 have hb0:Nxt w (w.alloc (.cells (zae (List.replicate n 0)) 3)):=zaa
 generalize w.alloc (.cells (zae (List.replicate n 0)) 3)=W at *
 have H0:=zc h0; have HB0:=zc hb0
 clear h0 hb0 hmk
 go_loopw [9] (fun s9 wr=>∃ i:Nat,s9 = .int .i64 (i:Int)/\i <= n/\Blk wr w.heap.size 3 (zae (cur n i))/\Nxt w wr) (fun s9 _=>n - (intOf s9).toNat)
 case atStart=>exact ⟨0,rfl,Nat.zero_le _,H0.out,HB0.out⟩
 case round=>
  obtain ⟨i,rfl,hi,h1,h2⟩:=hrel
  by_cases hin:i < n
  ·have hlt : decide ((i : Int) < (n : Int)) = true := by simp; omega
   have hlt':(i:Int) < (n:Int):=by omega
   have hadd:IntKind.i64.wrap ((i:Int)+1)=((i+1:Nat):Int):=by have:=HN.out; rw [zx]; omega
   have hcx:=zav h1 (cur_get hin)
   have hfx:wr.frozen? ⟨w.heap.size,i,none⟩=false:=Blk.frozen (k:=h1)
   have hs:=zbs (i:=i) (x:=(i:Int)) h1
   rw [cur_set] at hs
   have hb:Nxt w (wr.setCell ⟨w.heap.size,i,none⟩ (.int .i64 (i:Int))):=zaa
   have HS:=zc hs; have HB:=zc hb
   clear hs hb h1 h2
   go_wp2_with fail
   go_roundw
   case rel=>exact ⟨i+1,rfl,hin,HS.out,HB.out⟩
   case measure=>simp [intOf]; omega
  ·have hlt : decide ((i : Int) < (n : Int)) = false := by simp; omega
   obtain rfl:i=n:=by omega
   have H1:=zc h1; have H2:=zc h2
   clear h1 h2
   go_wp2_with fail
   go_ret
   exact ⟨rfl,by rw [<- cur_all]; exact H1.out,H2.out⟩
def lcg (x:Nat):Nat:=39373 * x % 2147483647
def swapL (l:List Int) (i j:Nat):List Int:=(l.set i (l.getD j 0)).set j (l.getD i 0)
def zgO:Nat -> Nat -> List Int -> List Int
 | 0,_,l=>l
 | i+1,x,l=>zgO i (lcg x) (swapL l (i+1) (lcg x % (i+2)))
def zdW (key n:Nat):List Int:=zgO (n - 1) key ((List.range n).map fun (j:Nat)=>(j:Int))
theorem zhC (l:List Int) (i j:Nat):(swapL l i j).length=l.length:=by simp [swapL]
theorem znt (key n:Nat) (h1:1 <= key) (h2:key < 2147483647) (hn:n <= 256) (w:World):
  Calls Tryz.prog 68 #[.int .i64 (key:Int),.int .i64 (n:Int)] w fun e w'=>e = .returned (.tuple #[.slice (some ⟨w.heap.size,0,none⟩) n n,.int .i64 0])/\Blk w' w.heap.size 3 (zae (zdW key n))/\Nxt w w':=by
 have f1:decide ((key:Int) < 1)=false:=by simp; omega
 have f2:decide ((2147483647:Int) <= (key:Int))=false:=by simp; omega
 have f4:decide ((n:Int) < 0)=false:=by simp
 have f3:decide ((256:Int) < (n:Int))=false:=by simp; omega
 have f5:IntKind.i64.wrap ((n:Int) - 1)=(n:Int) - 1:=by rw [zx]; omega
 have HN:=zc hn; have HK:=zc h2
 clear h1 h2 hn
 go_enter Tryz.func68,Tryz.ntmps68
 go_wp2_with fail
 refine zf (zjz n (by have:=HN.out; omega) w) ?_
 rintro e w1 ⟨rfl,hr,hb⟩
 have HR:=zc hr; have HB:=zc hb
 clear hr hb
 go_wp2_with fail
 go_loopw [7,8] (fun s7 s8 wr=>∃ (x:Nat) (z:Int) (l:List Int),s7 = .int .i64 (x:Int)/\s8 = .int .i64 z/\-1 <= z/\z < n/\x < 2147483647/\l.length=n/\zgO z.toNat x l=zdW key n/\Blk wr w.heap.size 3 (zae l)/\Nxt w wr) (fun _ s8 _=>(intOf s8).toNat)
 case atStart=>
  exact ⟨key,_,_,rfl,rfl,by omega,by omega,HK.out,by simp,by unfold zdW; congr 1; omega,HR.out,HB.out⟩
 case round=>
  obtain ⟨x,z,l,rfl,rfl,hz0,hzn,hx,hl,hg,hbk,hbe⟩:=hrel
  by_cases hz:0 < z
  ·obtain ⟨k, rfl⟩ : ∃ k : Nat, z = (k : Int) := ⟨z.toNat, by omega⟩
   have hk0:0 < k:=by omega
   have hkn:k < n:=by omega
   have g1:decide ((0:Int) < (k:Int))=true:=by simp; omega
   obtain ⟨y,hy⟩:∃ y,lcg x=y:=⟨_,rfl⟩
   have hyl:y < 2147483647:=by rw [<- hy]; exact Nat.mod_lt _ (by omega)
   obtain ⟨o,ho⟩:∃ o,y % (k+1)=o:=⟨_,rfl⟩
   have hol:o < k+1:=by rw [<- ho]; exact Nat.mod_lt _ (by omega)
   have m1:IntKind.i64.wrap (39373 * (x:Int))=39373 * (x:Int):=by rw [zx]; omega
   have m2:Int.tmod (39373 * (x:Int)) 2147483647=(y:Int):=by
    rw [Int.tmod_eq_emod_of_nonneg (by omega),<- hy]; unfold lcg; omega
   have m2':(39373 * (x:Int)) % 2147483647=(y:Int):=by rw [<- hy]; unfold lcg; omega
   have m3:IntKind.i64.wrap ((k:Int)+1)=(k:Int)+1:=by have:=HN.out; rw [zx]; omega
   have m4:Int.tmod (y:Int) ((k:Int)+1)=(o:Int):=by
    rw [Int.tmod_eq_emod_of_nonneg (by omega),<- ho,Int.natCast_emod]; rfl
   have m4':(y:Int) % ((k:Int)+1)=(o:Int):=by rw [<- ho,Int.natCast_emod]; rfl
   have m5:((k:Int)+1 == 0)=false:=by simp; omega
   have m6:IntKind.i64.wrap ((k:Int) - 1)=(k:Int) - 1:=by have:=HN.out; rw [zx]; omega
   have m7:IntKind.i64.wrap (y:Int)=(y:Int):=by rw [zx]; omega
   have m8:IntKind.i64.wrap (o:Int)=(o:Int):=by have:=HN.out; rw [zx]; omega
   have b1:(k:Int) < (n:Int):=by omega
   have b2:(o:Int) < (n:Int):=by omega
   obtain ⟨a,ha⟩:∃ a,l[k]?=some a:=⟨l[k],zg (by omega)⟩
   obtain ⟨b,hb⟩:∃ b,l[o]?=some b:=⟨l[o],zg (by omega)⟩
   have c1:=zav hbk ha
   have c2:=zav hbk hb
   have c3:wr.frozen? ⟨w.heap.size,k,none⟩=false:=Blk.frozen (k:=hbk)
   have c4:wr.frozen? ⟨w.heap.size,o,none⟩=false:=Blk.frozen (k:=hbk)
   have hs1:=zbs (i:=k) (x:=b) hbk
   have hs2:=zbs (i:=o) (x:=a) hs1
   obtain ⟨d,hd⟩:∃ d,(l.set k b)[o]?=some d:=⟨(l.set k b)[o]'(by simp; omega),zg (by simp; omega)⟩
   have c5:=zav hs1 hd
   have c6:(wr.setCell ⟨w.heap.size,k,none⟩ (.int .i64 b)).frozen? ⟨w.heap.size,o,none⟩=false:=Blk.frozen (k:=hs1)
   have hnx:Nxt w ((wr.setCell ⟨w.heap.size,k,none⟩ (.int .i64 b)).setCell ⟨w.heap.size,o,none⟩ (.int .i64 a)):=zaa
   have HNX:=zc hnx
   have e1:(l.set k b).set o a=swapL l k o:=by
    unfold swapL
    rw [List.getD_eq_getElem?_getD,List.getD_eq_getElem?_getD,ha,hb]; rfl
   rw [e1] at hs2
   have e2:zgO k x l=zgO (k - 1) y (swapL l k o):=by
    obtain ⟨j,rfl⟩:∃ j,k=j+1:=⟨k - 1,by omega⟩
    show zgO j (lcg x) (swapL l (j+1) (lcg x % (j+2)))=_
    rw [hy,ho]; rfl
   have HE2:=zc e2; have HS2:=zc hs2; have HG:=zc hg; have HL:=zc hl
   clear e1 e2 hs1 hs2 hbe hnx hg hl hbk ha hb hd hy ho hz hz0 hzn
   go_upto_region 10 with fail
   go_region
   all_goals
    go_wp2_with fail
    go_roundw
    case rel=>exact ⟨y,(k:Int) - 1,_,rfl,rfl,by omega,by omega,hyl,by rw [zhC]; exact HL.out,by rw [<- HG.out,show ((k:Int) - 1).toNat=k - 1 by omega,show ((k:Int)).toNat=k from rfl,HE2.out],⟨HS2.out.out⟩,⟨HNX.out.out.drew⟩⟩
    case measure=>simp [intOf]; omega
  ·have hz' : decide ((0 : Int) < z) = false := by simp; omega
   have e0:z.toNat=0:=by omega
   rw [e0] at hg
   have hg':l=zdW key n:=hg
   subst hg'
   have HBK:=zc hbk; have HBE:=zc hbe
   clear hbk hbe hz e0 hg
   go_wp2_with fail
   go_ret2
   exact ⟨rfl,HBK.out,HBE.out⟩
section
theorem zdM {q:Rat} (h:q.den=1):q=(q.num:Rat):=by
 apply Rat.ext
 ·rw [Rat.num_intCast]
 ·rw [Rat.den_intCast,h]
theorem zbL {v1:Value} {q:Rat} {a:Nat} {t:Bool} {w:World} [h1:RatIs w v1 q] [d1:Sz q a] (h:a <= MaxW) (ht:decide (q.den=1)=t):Calls Tryz.prog 187 #[v1] w (PRet w (.bool t)):=by
 subst ht
 exact zaM h
theorem zbN {x:Int} {g:Nat} (h:g ≠ 0):flr x (g:Int)=x / (g:Int):=zeo (by omega)
theorem za1:wl 1=1:=by
 unfold wl
 rw [zcl (by omega) (by unfold B64; omega)]; rfl
theorem zmT {q r:Rat} {a b:Nat} [h1:Sz q a] [h2:Sz r b]:Sz (q+r) (a+b+1):=by
 have hm:wl (q.num * (r.den:Int)+r.num * (q.den:Int)).natAbs <= a+b+1:=by
  have e1:Wd (q.num * (r.den:Int)) (a+b):=za
  have e2:Wd (r.num * (q.den:Int)) (b+a):=za
  refine zo (zar (Int.natAbs_add_le _ _)) (zo (zhx _ _) ?_)
  have:=e1.out; have:=e2.out; omega
 have hd:wl (q.den * r.den) <= a+b:=zo (zgy _ _) (Nat.add_le_add h1.den h2.den)
 rw [Rat.add_def',<- Rat.divInt_ofNat]
 constructor
 ·rw [Rat.num_divInt]
  refine zo (zar ?_) hm
  have hp:0 < q.den * r.den:=Nat.mul_pos (Nat.pos_of_ne_zero q.den_nz) (Nat.pos_of_ne_zero r.den_nz)
  rw [Int.sign_eq_one_of_pos (by omega),Int.one_mul]
  generalize (q.num * (r.den:Int)+r.num * (q.den:Int))=N
  rcases Nat.eq_zero_or_pos (Int.gcd ((q.den * r.den:Nat):Int) N) with h0 | h0
  ·rw [h0]; simp
  ·rw [zbl (Int.gcd_dvd_right _ _)]; exact Nat.div_le_self _ _
 ·rw [Rat.den_divInt]
  split
  ·rw [show wl 1=1 from za1]; omega
  ·exact zo (zar (Nat.div_le_self _ _)) (by show wl (q.den * r.den) <= _; omega)
theorem zjF {q:Rat} {a:Nat} [h:Sz q a]:Sz (-q) a:=⟨by rw [Rat.neg_num,Int.natAbs_neg]; exact h.num,by rw [Rat.neg_den]; exact h.den⟩
attribute [instance] zmT zjF
instance {q r:Rat} {a b:Nat} [h1:Sz q a] [h2:Sz r b]:Sz (q * r) (a+b):=by
 obtain ⟨e1,e2⟩:=zhV (q:=q) (r:=r) rfl rfl
 constructor
 ·rw [<- e1, Int.natAbs_mul]
  refine zo (zgy _ _) (Nat.add_le_add ?_ ?_)
  ·rw [zbl (Int.ofNat_dvd_left.2 (Nat.gcd_dvd_left _ _))]; exact zo (zar (Nat.div_le_self _ _)) h1.num
  ·rw [zbl (Int.ofNat_dvd_left.2 (Nat.gcd_dvd_left _ _))]; exact zo (zar (Nat.div_le_self _ _)) h2.num
 ·rw [<- e2]
  exact zo (zgy _ _) (Nat.add_le_add (zo (zar (Nat.div_le_self _ _)) h1.den) (zo (zar (Nat.div_le_self _ _)) h2.den))
theorem zih {n m a:Nat} (hm:m ≠ 0) (h:wl m <= a):wl (Nat.gcd n m) <= a:=zo (zar (Nat.gcd_le_right n (Nat.pos_of_ne_zero hm))) h
class NZ (z:Int):Prop where
 out:z ≠ 0
theorem zal {v1 v2:Value} {x y:Int} {a b:Nat} {w:World} [h1:IntIs w v1 x] [h2:IntIs w v2 y] [d1:Wd x a] [d2:Wd y b] [z:NZ y] (h:a+a+a+b+9 <= MaxW):Calls Tryz.prog 172 #[v1,v2] w (IRet w (flr x y)):=zfG h z.out
@[go_sem] theorem zmE (b:Bool) (A:Option Addr) (k c:Nat) (w:World):(Instr.field 98 (.agg #[.bool b,.slice A k c]) 1).run Tryz.prog w = .ok (.slice A k c) w:=by kernel_rfl
end
def IAt (w:World) (A:Option Addr) (ws:List Int):Prop:=∀ i x,ws[i]?=some x -> ∃ ad,A=some ad/\w.cell? (ad.add i)=some (.int .i64 x)
theorem zlU {w:World} {g:Nat} {t:TypeId} {ws:List Int} (h:Blk w g t (zae ws)):IAt w (some ⟨g,0,none⟩) ws:=by
 intro i x hx
 refine ⟨_,rfl,?_⟩
 have e:(Addr.add ⟨g,0,none⟩ i)=⟨g,i,none⟩:=by unfold Addr.add; by_cases hi:i=0 <;> simp [hi]
 rw [e]
 exact zav h hx
theorem zhH (A1 A2:Option Addr) (c1 c2 n1 n2:Nat) (l1 l2:List Int) (w:World) (h1:IAt w A1 l1) (h2:IAt w A2 l2) (e1:l1.length=n1) (e2:l2.length=n2) (hn:n1 < 2 ^ 40) (hm:n2 < 2 ^ 40):
  Calls Tryz.prog 69 #[.slice A1 n1 c1,.slice A2 n2 c2] w fun e w'=>e = .returned (.bool (decide (l1=l2)))/\Drew w w':=by
 have H1:=zc h1; have H2:=zc h2; have E1:=zc e1; have E2:=zc e2; have HN:=zc hn
 by_cases hne:n1=n2
 ·subst hne
  clear h1 h2 e1 e2 hn hm
  go_enter Tryz.func69,Tryz.ntmps69
  go_wp2_with fail
  go_loopw [5] (fun s5 wr=>∃ i:Nat,s5 = .int .i64 (i:Int)/\i <= n1/\(∀ j,j < i -> l1[j]?=l2[j]?)/\Drew w wr) (fun s5 _=>n1 - (intOf s5).toNat)
  case atStart=>exact ⟨0,rfl,Nat.zero_le _,fun _ h=>absurd h (by omega),Drew.refl _⟩
  case round=>
   obtain ⟨i,rfl,hi,hok,hd⟩:=hrel
   have HO:=zc hok
   clear hok
   by_cases hin:i < n1
   ·have hlt : decide ((i : Int) < (n1 : Int)) = true := by simp; omega
    have hlt':(i:Int) < (n1:Int):=by omega
    have hadd:IntKind.i64.wrap ((i:Int)+1)=((i+1:Nat):Int):=by have:=HN.out; rw [zx]; omega
    obtain ⟨x,hx⟩:∃ x,l1[i]?=some x:=⟨l1[i]'(by rw [E1.out]; exact hin),zg _⟩
    obtain ⟨y,hy⟩:∃ y,l2[i]?=some y:=⟨l2[i]'(by rw [E2.out]; exact hin),zg _⟩
    obtain ⟨ad1,rfl,k1⟩:=H1.out i x hx
    obtain ⟨ad2,rfl,k2⟩:=H2.out i y hy
    have k3:wr.cell? (ad1.add i)=some (.int .i64 x):=by obtain ⟨_,rfl⟩:=hd; exact k1
    have k4:wr.cell? (ad2.add i)=some (.int .i64 y):=by obtain ⟨_,rfl⟩:=hd; exact k2
    have HD:=zc hd; have HX:=zc hx; have HY:=zc hy
    clear hd hx hy k1 k2
    by_cases hxy:x=y
    ·subst hxy
     go_wp2_with fail
     go_quiet (fail)
     go_wp2_with fail
     go_roundw
     case rel=>exact ⟨i+1,rfl,hin,fun j hj=>by
      rcases Nat.lt_or_ge j i with h | h
      ·exact HO.out j h
      ·obtain rfl : j = i := by omega
       rw [HX.out,HY.out],HD.out.more _⟩
     case measure=>simp [intOf]; omega
    ·have hnx : (x != y) = true := by simpa using hxy
     go_wp2_with fail
     go_quiet (fail)
     go_wp2_with fail
     go_ret
     exact ⟨by rw [show decide (l1=l2)=false by simp; rintro rfl; rw [HX.out] at HY; exact hxy (zl HY.out)]; rfl,HD.out.more _⟩
   ·have hlt : decide ((i : Int) < (n1 : Int)) = false := by simp; omega
    have HD:=zc hd
    clear hd
    go_wp2_with fail
    go_ret
    exact ⟨by rw [show decide (l1=l2)=true by simp; exact List.ext_getElem? (fun j=>by
     rcases Nat.lt_or_ge j i with h | h
     ·exact HO.out j h
     ·rw [List.getElem?_eq_none (by rw [E1.out]; omega),List.getElem?_eq_none (by rw [E2.out]; omega)])]; rfl,HD.out⟩
 ·have hb : ((n1 : Int) != (n2 : Int)) = true := by simp; omega
  have hl:decide (l1=l2)=false:=by simp; rintro rfl; omega
  have HLL:=zc hl
  clear h1 h2 e1 e2 hn hm hl
  go_enter Tryz.func69,Tryz.ntmps69
  go_wp2_with fail
  go_ret
  exact ⟨by rw [HLL.out]; rfl,Drew.refl _⟩
end Go.Proofs.YtombhkpniddceaaGreatDoor
