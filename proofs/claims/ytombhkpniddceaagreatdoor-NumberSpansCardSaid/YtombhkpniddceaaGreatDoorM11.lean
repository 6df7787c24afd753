import Derived.Test.YtombhkpniddceaaGreatDoorM10
set_option maxHeartbeats 3200000
set_option maxRecDepth 100000
set_option linter.all false
namespace Go.Proofs.YtombhkpniddceaaGreatDoor
open Go.RowKit
def strLen:Value -> Nat
 | .string r=>r.size
 | _=>0
def DigRel (L total:Nat) (w:World) (s0 s3:Value) (wr:World):Prop:=
 ∃ (r:ByteArray) (t:NV) (n:Nat),s0 = .string r/\s3=t.v/\NatIs wr t.v n/\Digs r.data.toList/\n * 10 ^ r.size+zac r.data.toList=total/\(n=0 ∨ 19 ∣ r.size)/\r.size <= L/\Nxt w wr
theorem zjg (r:ByteArray) (i:Nat):(r.extract i r.size).data.toList=r.data.toList.drop i:=by
 simp
 exact List.take_of_length_le (by simp)
theorem zny {n m k v total:Nat} {l:List UInt8} {z:Nat} (h:n * 10 ^ z+zac l=total) (h19:n=0 ∨ 19 ∣ z) (hm:z=m+1) (hk:m % 19+1=k) (hv:zac (l.take k)=v) (hz:l.length=z):
  (10000000000000000000 * n+v) * 10 ^ (min z z - k)+zac (l.drop k)=total:=by
 have e:zac l=v * 10 ^ (z - k)+zac (l.drop k):=by
  conv=>lhs; rw [<- List.take_append_drop k l]
  rw [zbQ,hv,List.length_drop,hz]
 rw [Nat.min_self,<- h,e,Nat.add_mul]
 rcases h19 with rfl | h19
 ·simp
 ·obtain rfl : k = 19 := by omega
  have:10 ^ z=10 ^ 19 * 10 ^ (z - 19):=by rw [<- Nat.pow_add]; congr 1; omega
  rw [this,show (10000000000000000000:Nat)=10 ^ 19 from rfl,zw (10 ^ 19) n,Nat.mul_assoc]
  omega
theorem fromDigits_c {s:ByteArray} {w:World} (hd:Digs s.data.toList) (hs:s.size <= 2 ^ 30):
  Calls Tryz.prog 161 #[.string s] w (IRet w (zac s.data.toList:Int)):=by
 obtain ⟨total,ht⟩:∃ t,zac s.data.toList=t:=⟨_,rfl⟩
 rw [ht]
 have hlt:total < 10 ^ s.size:=by rw [<- ht]; have:=zbc hd; simpa using this
 have HLT:=zc hlt; have HS:=zc hs; have HD:=zc hd; have HT:=zc ht
 clear hlt hs hd ht
 go_enter Tryz.func161,Tryz.ntmps161
 go_wp2_with fail
 go_loopw [0,3] (fun s0 s3 wr=>DigRel s.size total (w.alloc (.cells #[.bool false,.slice none 0 0] 98)) s0 s3 wr) (fun s0 _ _=>strLen s0)
 case atStart=>exact ⟨s,⟨none,0,0⟩,0,rfl,rfl,NatIs.zero _,HD.out,by rw [Nat.zero_mul,Nat.zero_add]; exact HT.out,Or.inl rfl,zv _,zaa⟩
 case round=>
  obtain ⟨r,t,n,rfl,rfl,i1,hdr,hn,h19,hrl,_⟩:=hrel
  have HDR:=zc hdr; have HN:=zc hn; have H19:=zc h19; have HRL:=zc hrl
  clear hdr hn h19 hrl
  by_cases hz:r.size=0
  ·have hl : r.data.toList = [] := List.eq_nil_of_length_eq_zero (by simpa using hz)
   obtain rfl:n=total:=by have:=HN.out; rw [hl,hz] at this; simpa [zac] using this
   clear HN H19 hl
   go_wp2_with (first | (go_at_call 160; refine zf (zbq) ?_; rintro e w1 ⟨b1,rfl,_,_⟩))
   simp [bodyPost,results,Tryz.results161,go_sem]
   exact ⟨⟨b1,t⟩,rfl,(za:IntIs _ _ (sgn false n)),zaa⟩
  ·have hgt : decide ((0 : Int) < (r.size : Int)) = true := by simp; omega
   obtain ⟨m,hm⟩:∃ m,r.size=m+1:=⟨r.size - 1,by omega⟩
   have hmb:m < 2 ^ 31:=by have:=HS.out; have:=HRL.out; omega
   have hw1:IntKind.i64.wrap ((r.size:Int) - 1)=(m:Int):=by rw [zx]; omega
   obtain ⟨k,hk⟩:∃ k,m % 19+1=k:=⟨_,rfl⟩
   have hk19:k <= 19:=by omega
   have hk1:1 <= k:=by omega
   have hkr:k <= r.size:=by omega
   have hw2:IntKind.i64.wrap ((m:Int) % 19+1)=(k:Int):=by rw [zx]; omega
   have hw3:(m:Int).tmod 19=(m:Int) % 19:=Int.tmod_eq_emod_of_nonneg (by omega)
   have hk0:(0:Int) <= (k:Int):=by omega
   have hkr':(k:Int) <= (r.size:Int):=by omega
   have HM:=zc hm; have HK:=zc hk; have HMB:=zc hmb; have HK19:=zc hk19; have HK1:=zc hk1; have HKR:=zc hkr
   have hconv:=run_bytes_of_string (P:=Tryz.prog) wr 9 235 5 (r.extract 0 k) Tryz.underlying9 Tryz.underlying235 Tryz.underlying5
   have hpos:0 < r.size:=by omega
   clear hz hm hmb hk hk19 hk1
   go_wp2_with fail
   have hez:(r.extract 0 k).size=k:=by rw [ByteArray.size_extract]; have:=HKR.out; omega
   have hcell:∀ i (hi:i < r.size),i < k -> (wr.alloc (Obj.cells (bytesRow (r.extract 0 k) (grownCap wr k 0 5)) 5 ((bytesRow (r.extract 0 k) (grownCap wr k 0 5)).size,(bytesRow (r.extract 0 k) (grownCap wr k 0 5)).size+1))).cell? ⟨wr.heap.size,i,none⟩=some (.int .u8 ((r.data[i]'hi).toNat:Int)):=by
    intro i hi hik
    have hj:i < (r.extract 0 k).data.size:=by show i < (r.extract 0 k).size; rw [hez]; exact hik
    rw [World.cell?_alloc_mark]
    have h:=bytesRow_at (r.extract 0 k) (grownCap wr k 0 5) i hj
    refine h.trans ?_
    congr 2
    have:(r.extract 0 k).data=r.data.extract 0 k:=by simp
    simp
   have hnx:Nxt wr (wr.alloc (Obj.cells (bytesRow (r.extract 0 k) (grownCap wr k 0 5)) 5 ((bytesRow (r.extract 0 k) (grownCap wr k 0 5)).size,(bytesRow (r.extract 0 k) (grownCap wr k 0 5)).size+1))):=zaa
   generalize (wr.alloc (Obj.cells (bytesRow (r.extract 0 k) (grownCap wr k 0 5)) 5 ((bytesRow (r.extract 0 k) (grownCap wr k 0 5)).size,(bytesRow (r.extract 0 k) (grownCap wr k 0 5)).size+1)))=W at *
   have HC:=zc hcell
   clear hcell hconv hez
   obtain ⟨wo,hwo⟩:∃ wo:World,Hid (wo=W.drew):=⟨_,rfl⟩
   go_loopw [5,21] (fun s5 s21 wx=>∃ i:Nat,i <= k/\s21 = .int .i64 (i:Int)/\s5 = .int .u64 (zac (r.data.toList.take i):Int)/\wx=W.drew) (fun _ s21 _=>k - (intOf s21).toNat)
   case atStart=>exact ⟨0,Nat.zero_le _,rfl,rfl,rfl⟩
   case round=>
    obtain ⟨i,hik,rfl,rfl,rfl⟩:=hrel
    by_cases hin:i < k
    ·have hir : i < r.size := by have := HKR.out; omega
     have hcx:=HC.out i hir hin
     have hx:=HDR.out (r.data[i]'hir) (by simp)
     have hts:zac (r.data.toList.take (i+1))=10 * zac (r.data.toList.take i)+((r.data[i]'hir).toNat - 48):=by
      rw [List.take_succ_eq_append_getElem (by simpa using hir),zcL]; simp
     have hv:zac (r.data.toList.take i) < 10 ^ 18:=by
      have h1:=zbc (l:=r.data.toList.take i) (fun b hb=>HDR.out b (List.mem_of_mem_take hb))
      have h2:(r.data.toList.take i).length <= 18:=by have:=HK19.out; rw [List.length_take]; omega
      exact Nat.lt_of_lt_of_le h1 (Nat.pow_le_pow_right (by omega) h2)
     generalize (r.data[i]'hir).toNat=x at *
     generalize hvv:zac (r.data.toList.take i)=v at *
     have hadd:IntKind.i64.wrap ((i:Int)+1)=((i+1:Nat):Int):=by have:=HK19.out; rw [zx]; omega
     have hm1:IntKind.u64.wrap (10 * (v:Int))=((10 * v:Nat):Int):=by rw [IntKind.wrap_u64]; omega
     have hm2:IntKind.u8.wrap ((x:Int) - 48)=((x - 48:Nat):Int):=by rw [IntKind.wrap_u8]; omega
     have hm3:IntKind.u64.wrap ((x - 48:Nat):Int)=((x - 48:Nat):Int):=by rw [IntKind.wrap_u64]; omega
     have hm4:IntKind.u64.wrap (10 * (v:Int)+((x - 48:Nat):Int))=((10 * v+(x - 48):Nat):Int):=by rw [IntKind.wrap_u64]; omega
     have HTS:=zc hts; have M1:=zc hm1; have M4:=zc hm4
     clear hts hv hvv hm4
     go_wp2_with fail
     exact ⟨⟨i+1,hin,by go_num,by rw [M4.out,HTS.out],trivial⟩,by simp [intOf]; omega⟩
    ·obtain rfl : i = k := by omega
     obtain ⟨v,hv⟩:∃ v,zac (r.data.toList.take i)=v:=⟨_,rfl⟩
     rw [hv]
     have hvB:v < B64:=by
      have h1:=zbc (l:=r.data.toList.take i) (fun b hb=>HDR.out b (List.mem_of_mem_take hb))
      have h2:(r.data.toList.take i).length <= 19:=by have:=HK19.out; rw [List.length_take]; omega
      have h3:10 ^ (r.data.toList.take i).length <= 10 ^ 19:=Nat.pow_le_pow_right (by omega) h2
      rw [hv] at h1
      unfold B64; omega
     have hN0:=HN.out
     have wn:WdN n s.size:=⟨by
      apply zaf
      have h1:n * 1 <= n * 10 ^ r.size:=Nat.mul_le_mul_left _ (Nat.pow_pos (by omega))
      have h2:10 ^ s.size <= B64 ^ s.size:=Nat.pow_le_pow_left (by unfold B64; omega) _
      have:=HLT.out
      omega⟩
     have wv:WdN v 1:=⟨zaf (by rw [Nat.pow_one]; exact hvB)⟩
     have hM:s.size+9 <= MaxW:=by have:=HS.out; unfold MaxW; omega
     have hc:wl 10000000000000000000 <= 1:=zaf (by unfold B64; omega)
     have HVB:=zc hvB; have HV:=zc hv; have HCW:=zc hc
     have hch:Hid ((10000000000000000000:Nat) < B64):=by show _ < _; unfold B64; omega
     clear hvB hv hN0 hc
     go_wp2_with ((first
      | (go_at_call 227; refine zf (zlF (a:=n) (u:=10000000000000000000) (by omega) hch.out) ?_; rintro e w1 ⟨s1,rfl,_,_⟩)
      | (go_at_call 214; refine zf (zhA (ws:=[v]) (Buf.one (Buf.ofBlk HVB.out)) rfl (zv _) (by unfold maxLen; omega) (zbV v)) ?_; rintro e w1 ⟨s2,rfl,_,rfl⟩)
      | (go_at_call 228; refine zf (zlC (by have:=HCW.out; omega)) ?_; rintro e w1 ⟨s3,rfl,_,_⟩)))
     refine ⟨⟨r.extract i r.size,s3,10000000000000000000 * n+v,rfl,rfl,za,?_,?_,?_,?_,zaa⟩,?_⟩
     ·rw [zjg]
      exact fun b hb=>HDR.out b (List.mem_of_mem_drop hb)
     ·rw [zjg, ByteArray.size_extract]
      exact zny HN.out H19.out HM.out HK.out HV.out (by simp)
     ·refine Or.inr ?_
      rw [ByteArray.size_extract]
      have:=HM.out; have:=HK.out
      omega
     ·rw [ByteArray.size_extract]; have:=HRL.out; omega
     ·show (r.extract i r.size).size < r.size
      rw [ByteArray.size_extract]; have:=HK1.out; omega
end Go.Proofs.YtombhkpniddceaaGreatDoor
