import Derived.Test.YtombhkpniddceaaGreatDoorM12
import Derived.Test.YtombhkpniddceaaGreatDoorM13
set_option maxHeartbeats 6400000
set_option maxRecDepth 100000
set_option linter.all false
namespace Go.Proofs.YtombhkpniddceaaGreatDoor
open Go.Lib Go.RowKit Go.Sort
def zad (q:Rat):List UInt8:=itoaZ q.num ++ (if q.den=1 then [] else 47 :: Lib.decDigits q.den)
def Fits (q:Rat):Prop:=(Lib.decDigits q.num.natAbs).length <= 600/\(Lib.decDigits q.den).length <= 600
instance (q:Rat):Decidable (Fits q):=inferInstanceAs (Decidable (_/\_))
def zet (q:Rat):Value:=if Fits q then .tuple #[str (zad q),.int .i64 0] else .tuple #[str [],.int .i64 4]
theorem zn8 (n:Nat):bl n <= 4 * (Lib.decDigits n).length:=by
 rw [Lib.decDigits_length]
 refine bl_le (Nat.lt_of_lt_of_le (Lib.lt_pow_nDigits n) ?_)
 rw [Nat.pow_mul]
 exact Nat.pow_le_pow_left (by decide) _
theorem zcZ (n:Nat):itoaZ (n:Int)=Lib.decDigits n:=by
 unfold itoaZ
 rw [if_neg (by omega),Int.natAbs_natCast]
theorem zb2 {v1:Value} {n a:Nat} {w:World} [h1:IntIs w v1 (n:Int)] [d1:Wd (n:Int) a] [hg:Glo w] (ha:a <= 2 ^ 20):
  Calls Tryz.prog 215 #[v1] w (PRet w (str (Lib.decDigits n))):=by
 rw [<- zcZ]
 exact zh9 ha
theorem zfl {v1:Value} {q:Rat} {a:Nat} {w:World} [h1:RatIs w v1 q] [d1:Sz q a] [hg:Glo w] (ha:a <= 2 ^ 20):
  Calls Tryz.prog 142 #[v1] w (PRet w (zet q)):=by
 obtain ⟨s1,rfl,_,n1,k1,HE1⟩:=h1.form
 have hM:a+a+9 <= MaxW:=by unfold MaxW; omega
 go_enter Tryz.func142,Tryz.ntmps142
 go_upto_region 1 with fail
 go_cut [4,5] (fun t4 t5 wx=>∃ (g4 g5:Nat) (s4 s5:IV),t4 = .pointer (some ⟨g4,0,none⟩)/\t5 = .pointer (some ⟨g5,0,none⟩)/\Blk wx g4 98 #[.bool s4.b,s4.m.v]/\Blk wx g5 98 #[.bool s5.b,s5.m.v] /\
  IntIs wx s4.v (q.num.natAbs:Int)/\IntIs wx s5.v (q.den:Int)/\Nxt (w.alloc (.cells #[.bool s1.n.b,.slice s1.n.m.A s1.n.m.k s1.n.m.c,.slice s1.d.A s1.d.k s1.d.c] 100)) wx)
 case first=>
  (refine Code.nameW ?_; intro W hW; go_region_held3 (fun w'=>ButO W [] w') (exact zab) ((first | (go_at_call 167; refine zf (zak) ?_; rintro e w1 ⟨s1,rfl,_,_⟩) | (go_at_call 213; refine zf (zfI) ?_; rintro e w1 ⟨s1,rfl,_,_⟩))))
  all_goals go_wp2_with fail
  all_goals go_meet
  all_goals exact ⟨_,_,_,_,rfl,rfl,za,za,za,za,zaa⟩
 case rest=>
  obtain ⟨g4,g5,s4,s5,rfl,rfl,_,_,_,_,_⟩:=hcut
  go_wp2_with fail
  by_cases hbig:(2400:Int) < max ((bl q.num.natAbs:Nat):Int) ((bl q.den:Nat):Int)
  ·have HV := zc (show zet q = .tuple #[str [], .int .i64 4] from if_neg (fun h => by have h1 := zn8 q.num.natAbs; have h2 := zn8 q.den; have h3 := h.1; have h4 := h.2; omega))
   (refine Code.nameW ?_; intro W hW; go_region_held3 (fun w'=>ButO W [] w') (exact zab) ((first | (go_at_call 163; refine zf (zaW (by omega)) ?_; rintro e w1 ⟨rfl,_⟩))))
   all_goals go_wp2_with fail
   all_goals go_ret2
   all_goals exact ⟨by rw [HV.out]; rfl,zaa⟩
  ·have hbig' : max ((bl q.num.natAbs : Nat) : Int) ((bl q.den : Nat) : Int) <= 2400 := by omega
   (refine Code.nameW ?_; intro W hW; go_region_held3 (fun w'=>ButO W [] w') (exact zab) ((first | (go_at_call 163; refine zf (zaW (by omega)) ?_; rintro e w1 ⟨rfl,_⟩))))
   all_goals go_wp2_with fail
   clear hbig hbig'
   by_cases hl:(600:Int) < max (((Lib.decDigits q.num.natAbs).length:Nat):Int) (((Lib.decDigits q.den).length:Nat):Int)
   ·have HV := zc (show zet q = .tuple #[str [], .int .i64 4] from if_neg (fun h => by have h3 := h.1; have h4 := h.2; omega))
    (refine Code.nameW ?_; intro W hW; go_region_held3 (fun w'=>ButO W [] w') (exact zab) ((first | (go_at_call 215; refine zf (zb2 ha) ?_; rintro e w1 ⟨rfl,_⟩))))
    all_goals go_wp2_with fail
    all_goals go_ret2
    all_goals exact ⟨by rw [HV.out]; rfl,zaa⟩
   ·have hl' : max (((Lib.decDigits q.num.natAbs).length : Nat) : Int) (((Lib.decDigits q.den).length : Nat) : Int) <= 600 := by omega
    have HV:=zc (show zet q = .tuple #[str (zad q),.int .i64 0] from if_pos ⟨by omega,by omega⟩)
    by_cases hn:q.num < 0
    ·have hs : decide (sgnI q.num < 0) = true := by unfold sgnI; simp; split <;> (try split) <;> omega
     by_cases hd:q.den=1
     ·have HT := zc (show zad q = 45 :: Lib.decDigits q.num.natAbs by unfold zad itoaZ; rw [if_pos hn, if_pos hd]; simp)
      rw [hd] at hl'
      (refine Code.nameW ?_; intro W hW; go_region_held3 (fun w'=>ButO W [] w') (exact zab) ((first | (go_at_call 215; refine zf (zb2 ha) ?_; rintro e w1 ⟨rfl,_⟩))))
      all_goals go_wp2_with ((first | (go_at_call 71; refine zf (zaT (q:=q)) ?_; rintro e w1 ⟨rfl,_⟩) | (go_at_call 187; refine zf (zaM (q:=q) (a:=a) (by omega)) ?_; rintro e w1 ⟨rfl,_⟩)))
      all_goals go_ret2
      all_goals first
       | (exfalso; simp_all; done)
       | (refine ⟨?_,zaa⟩; rw [HV.out,HT.out]; simp [str]; done)
       | (refine ⟨?_,zaa⟩; rw [HV.out,HT.out]; simp [str]; apply ByteArray.ext; simp; done)
     ·have HT := zc (show zad q = 45 :: Lib.decDigits q.num.natAbs ++ 47 :: Lib.decDigits q.den by unfold zad itoaZ; rw [if_pos hn, if_neg hd])
      (refine Code.nameW ?_; intro W hW; go_region_held3 (fun w'=>ButO W [] w') (exact zab) ((first | (go_at_call 215; refine zf (zb2 ha) ?_; rintro e w1 ⟨rfl,_⟩))))
      all_goals go_wp2_with ((first | (go_at_call 71; refine zf (zaT (q:=q)) ?_; rintro e w1 ⟨rfl,_⟩) | (go_at_call 187; refine zf (zaM (q:=q) (a:=a) (by omega)) ?_; rintro e w1 ⟨rfl,_⟩)))
      all_goals go_ret2
      all_goals first
       | (exfalso; simp_all; done)
       | (refine ⟨?_,zaa⟩; rw [HV.out,HT.out]; simp [str]; done)
       | (refine ⟨?_,zaa⟩; rw [HV.out,HT.out]; simp [str]; apply ByteArray.ext; simp; done)
    ·have hs : decide (sgnI q.num < 0) = false := by unfold sgnI; simp; split <;> (try split) <;> omega
     by_cases hd:q.den=1
     ·have HT := zc (show zad q = Lib.decDigits q.num.natAbs by unfold zad itoaZ; rw [if_neg hn, if_pos hd]; simp)
      rw [hd] at hl'
      (refine Code.nameW ?_; intro W hW; go_region_held3 (fun w'=>ButO W [] w') (exact zab) ((first | (go_at_call 215; refine zf (zb2 ha) ?_; rintro e w1 ⟨rfl,_⟩))))
      all_goals go_wp2_with ((first | (go_at_call 71; refine zf (zaT (q:=q)) ?_; rintro e w1 ⟨rfl,_⟩) | (go_at_call 187; refine zf (zaM (q:=q) (a:=a) (by omega)) ?_; rintro e w1 ⟨rfl,_⟩)))
      all_goals go_ret2
      all_goals first
       | (exfalso; simp_all; done)
       | (refine ⟨?_,zaa⟩; rw [HV.out,HT.out]; simp [str]; done)
       | (refine ⟨?_,zaa⟩; rw [HV.out,HT.out]; simp [str]; apply ByteArray.ext; simp; done)
     ·have HT := zc (show zad q = Lib.decDigits q.num.natAbs ++ 47 :: Lib.decDigits q.den by unfold zad itoaZ; rw [if_neg hn, if_neg hd])
      (refine Code.nameW ?_; intro W hW; go_region_held3 (fun w'=>ButO W [] w') (exact zab) ((first | (go_at_call 215; refine zf (zb2 ha) ?_; rintro e w1 ⟨rfl,_⟩))))
      all_goals go_wp2_with ((first | (go_at_call 71; refine zf (zaT (q:=q)) ?_; rintro e w1 ⟨rfl,_⟩) | (go_at_call 187; refine zf (zaM (q:=q) (a:=a) (by omega)) ?_; rintro e w1 ⟨rfl,_⟩)))
      all_goals go_ret2
      all_goals first
       | (exfalso; simp_all; done)
       | (refine ⟨?_,zaa⟩; rw [HV.out,HT.out]; simp [str]; done)
       | (refine ⟨?_,zaa⟩; rw [HV.out,HT.out]; simp [str]; apply ByteArray.ext; simp; done)
def cut1 (l:List UInt8) (c:UInt8):List UInt8 × List UInt8 × Bool:=
 if Lib.indexByte l c < 0 then (l,[],false) else (l.take (Lib.indexByte l c).toNat,l.drop ((Lib.indexByte l c).toNat+1),true)
theorem znb:∀ {l:List UInt8} {c:UInt8},Lib.indexByte l c < (l.length:Int):=by
 intro l
 induction l with
 | nil=>intro c; simp [Lib.indexByte]
 | cons b l ih=>
  intro c
  have:=ih (c:=c)
  unfold Lib.indexByte
  split
  ·rw [List.length_cons]; omega
  ·split
   ·rw [List.length_cons]; omega
   ·rw [List.length_cons]; omega
theorem str_eq (s:ByteArray):Value.string s=str s.data.toList:=by
 show _=Value.string _
 congr 1
theorem zil (s:ByteArray) (i:Nat):Value.string (s.extract 0 i)=str (s.data.toList.take i):=by
 rw [str_eq]; simp
theorem extract_drop (s:ByteArray) (i:Nat):Value.string (s.extract i s.size)=str (s.data.toList.drop i):=by
 rw [str_eq,zjg]
theorem cut_in {s:ByteArray} {c:UInt8} {w:World} (hs:s.size < 2 ^ 62):
  Calls Tryz.prog 226 #[.string s,.string ⟨#[c]⟩] w (PRet w (.tuple #[str (cut1 s.data.toList c).1,str (cut1 s.data.toList c).2.1,.bool (cut1 s.data.toList c).2.2])):=by
 have hge:=Lib.indexByte_ge s.data.toList c
 have hlt:=znb (l:=s.data.toList) (c:=c)
 obtain ⟨i,hi⟩:∃ i,Lib.indexByte s.data.toList c=i:=⟨_,rfl⟩
 have HX:=zc hi
 rw [hi] at hge hlt
 rw [show s.data.toList.length=s.size by rw [Array.length_toList]; rfl] at hlt
 by_cases h0:i < 0
 ·have HC := zc (show cut1 s.data.toList c = (s.data.toList, [], false) by unfold cut1; rw [hi, if_pos h0])
  have hn:decide (0 <= i)=false:=by simp; omega
  clear hge hlt hi h0
  go_enter Tryz.func226,Tryz.ntmps226
  go_wp2_with (go_at_call 258; refine zf (Tryz.stringslite_Index_one _ _ _) ?_; rw [HX.out]; rintro e w1 ⟨rfl,rfl⟩)
  simp [bodyPost,results,Tryz.results226,go_sem]
  exact ⟨by rw [HC.out,str_eq s],zaa⟩
 ·obtain ⟨n, rfl⟩ : ∃ n : Nat, i = (n : Int) := ⟨i.toNat, by omega⟩
  have HC:=zc (show cut1 s.data.toList c=(s.data.toList.take n,s.data.toList.drop (n+1),true) by unfold cut1; rw [hi,if_neg h0]; simp)
  have hn:(0:Int) <= (n:Int):=by omega
  obtain ⟨m,hm⟩:∃ m,n+1=m:=⟨_,rfl⟩
  rw [hm] at HC
  have hw1:IntKind.i64.wrap ((n:Int)+1)=(m:Int):=by rw [zx]; omega
  have hl1:(n:Int) <= (s.size:Int):=by omega
  have hl2:(m:Int) <= (s.size:Int):=by omega
  have hl3:(0:Int) <= (m:Int):=by omega
  clear hge hlt hi h0 hm
  go_enter Tryz.func226,Tryz.ntmps226
  go_wp2_with (go_at_call 258; refine zf (Tryz.stringslite_Index_one _ _ _) ?_; rw [HX.out]; rintro e w1 ⟨rfl,rfl⟩)
  (refine Code.nameW ?_; intro W hW; go_region_held3 (fun w'=>ButO W [] w') (exact zab) (fail))
  all_goals go_wp2_with fail
  simp [bodyPost,results,Tryz.results226,go_sem]
  exact ⟨by rw [HC.out,<- zil,<- extract_drop],zaa⟩
theorem cut_c {l:List UInt8} {c:UInt8} {w:World} (hs:l.length < 2 ^ 62):
  Calls Tryz.prog 158 #[str l,.string ⟨#[c]⟩] w (PRet w (.tuple #[str (cut1 l c).1,str (cut1 l c).2.1,.bool (cut1 l c).2.2])):=by
 have h:=cut_in (s:=⟨l.toArray⟩) (c:=c) (w:=w) (by show l.toArray.size < _; simpa using hs)
 rw [show (ByteArray.mk l.toArray).data.toList=l from rfl] at h
 have H:=zc h
 clear h hs
 go_enter Tryz.func158,Tryz.ntmps158
 go_wp2_with (go_at_call 226; refine zf H.out ?_; rintro e w1 ⟨rfl,_⟩)
 simp [bodyPost,results,Tryz.results158,go_sem]
 exact ⟨rfl,zaa⟩
theorem zjn {l p:List UInt8} {w:World}:
  Calls Tryz.prog 157 #[str l,str p] w (PRet w (.tuple #[str (Lib.trimPrefix l p),.bool (Lib.hasPrefix l p)])):=by
 refine zf (Tryz.strings_CutPrefix _ _ w) ?_
 rintro e w' ⟨rfl,rfl⟩
 exact ⟨rfl,zaa⟩
theorem zi8 {l:List UInt8} {w:World} (hs:l.length < 2 ^ 62):
  Calls Tryz.prog 159 #[str l] w (PRet w (.bool (decL l))):=
 isDecimal_c (s:=⟨l.toArray⟩) (zc (by show l.toArray.size < _; simpa using hs))
theorem zij {l:List UInt8} {w:World} (hd:Digs l) (hs:l.length <= 2 ^ 30):
  Calls Tryz.prog 161 #[str l] w (IRet w (zac l:Int)):=
 fromDigits_c (s:=⟨l.toArray⟩) hd (by show l.toArray.size <= _; simpa using hs)
end Go.Proofs.YtombhkpniddceaaGreatDoor
