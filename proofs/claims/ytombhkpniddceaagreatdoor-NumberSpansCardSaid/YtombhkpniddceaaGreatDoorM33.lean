import Derived.Test.YtombhkpniddceaaGreatDoorM32
set_option maxHeartbeats 25600000
set_option maxRecDepth 100000
set_option synthInstance.maxSize 20000
set_option linter.all false
namespace Go.Proofs.YtombhkpniddceaaGreatDoor
open Go.RowKit
structure RInv (w wr:World) (g n i:Nat) (us l:List IV):Prop where
 len:l.length=n
 blk:Blk wr g 98 (zaI l)
 at_:∀ k,k < n -> l[k]?=if k < i ∨ n <= k+i then us[n - 1 - k]? else us[k]?
 ints:∀ (v:Value) (z:Int),IntIs w v z -> IntIs wr v z
 but:But w [g] wr
theorem RInv.step {w wr:World} {g n i j:Nat} {us l:List IV} {ui uj:IV} (h:RInv w wr g n i us l) (hj:i+j+1=n) (hij:i < j) (hui:l[i]?=some ui) (huj:l[j]?=some uj) (hul:us.length=n):
  RInv w ((((wr.setCell ⟨g,i * 2,none⟩ (.bool uj.b)).setCell ⟨g,i * 2+1,none⟩ (.slice uj.m.A uj.m.k uj.m.c)).setCell ⟨g,j * 2,none⟩ (.bool ui.b)).setCell ⟨g,j * 2+1,none⟩ (.slice ui.m.A ui.m.k ui.m.c)) g n (i+1) us ((l.set i uj).set j ui):=by
 obtain ⟨⟨V1,_,_,_,_,b1⟩,m1,_⟩:=zeO (s:=uj) h.blk hui
 have hj2:(l.set i uj)[j]?=some uj:=by rw [List.getElem?_set_ne (by omega)]; exact huj
 obtain ⟨⟨V2,_,_,_,_,b2⟩,m2,_⟩:=zeO (s:=ui) b1 hj2
 have hil:i < l.length:=(zh.1 hui).1
 have hjl:j < l.length:=(zh.1 huj).1
 refine ⟨by rw [List.length_set,List.length_set]; exact h.len,b2,fun k hk=>?_,fun v z hv=>m2 v z (m1 v z (h.ints v z hv)),zct (zct (zct (zct h.but (by simp)) (by simp)) (by simp)) (by simp)⟩
 have hi0:=h.at_ i (by omega)
 have hj0:=h.at_ j (by omega)
 rw [if_neg (by omega),hui] at hi0
 rw [if_neg (by omega),huj] at hj0
 rw [List.getElem?_set,List.getElem?_set]
 by_cases e1:j=k
 ·subst e1
  rw [if_pos rfl,if_pos (by rw [List.length_set]; exact hjl),if_pos (by omega),show n - 1 - j=i by omega]
  exact hi0
 ·rw [if_neg e1]
  by_cases e2:i=k
  ·subst e2
   rw [if_pos rfl,if_pos hil,if_pos (by omega),show n - 1 - i=j by omega]
   exact hj0
  ·rw [if_neg e2, h.at_ k hk]
   by_cases e3:k < i ∨ n <= k+i
   ·rw [if_pos e3,if_pos (by omega)]
   ·rw [if_neg e3,if_neg (by omega)]
theorem RInv.drew {w wr:World} {g n i:Nat} {us l:List IV} (h:RInv w wr g n i us l):RInv w wr.drew g n i us l:=
 ⟨h.len,Blk.drew (k:=h.blk),h.at_,fun v z hv=>(h.ints v z hv).below (Below.refl _ _).drew,But.drew (k:=h.but)⟩
theorem RInv.fin {w wr:World} {g n i:Nat} {us l:List IV} (h:RInv w wr g n i us l) (hul:us.length=n) (hi:n <= i+i+1):l=us.reverse:=by
 apply List.ext_getElem?
 intro k
 rcases Nat.lt_or_ge k n with hk | hk
 ·rw [h.at_ k hk, List.getElem?_reverse (by omega), hul]
  by_cases e:k < i ∨ n <= k+i
  ·rw [if_pos e]
  ·rw [if_neg e,show n - 1 - k=k by omega]
 ·rw [List.getElem?_eq_none (by rw [h.len]; omega),List.getElem?_eq_none (by rw [List.length_reverse,hul]; omega)]
theorem zkm {w:World} {g n d:Nat} {zs:List Int} (h:ZAt w (.slice (some ⟨g,0,none⟩) n d) zs) (hn:n < 2 ^ 40):
  Calls Tryz.prog 107 #[.slice (some ⟨g,0,none⟩) n d] w (fun e w'=>e = .returned (.tuple #[])/\ZAt w' (.slice (some ⟨g,0,none⟩) n d) zs.reverse/\(∀ (v:Value) (z:Int),IntIs w v z -> IntIs w' v z)/\But w [g] w'):=by
 obtain ⟨g1,us,hv,hb,hul,hq⟩:=h
 have hzl:zs.length=n/\d=n/\g1=g:=by
  injection hv with h1 h2 h3
  injection h1 with h1
  injection h1 with h1
  omega
 obtain ⟨hzn,rfl,rfl⟩:=hzl
 rw [hzn] at hul
 have hw1:IntKind.i64.wrap ((d:Int) - 1)=(d:Int) - 1:=by rw [zx]; omega
 have HB:=zc hb; have HUL:=zc hul; have HQ:=zc hq; have HZN:=zc hzn; have HN:=zc hn
 clear hb hul hq hzn hn hv
 go_enter Tryz.func107,Tryz.ntmps107
 go_wp2_with fail
 go_loopg [2,3] d (fun gk s2 s3 wr=>∃ (i:Nat) (l:List IV),s2 = .int .i64 (i:Int)/\s3 = .int .i64 ((d:Int) - 1 - (i:Int))/\i <= d/\gk=d - i/\RInv w wr g1 d i us l)
 case atStart=>exact ⟨0,us,rfl,by simp,Nat.zero_le _,rfl,⟨HUL.out,HB.out,fun k hk=>by rw [if_neg (by omega)],fun _ _ h=>h,But.refl⟩⟩
 case round=>
  obtain ⟨i,l,rfl,rfl,hid,rfl,hR⟩:=hrel
  have HR:=zc hR
  clear hR
  by_cases hij:(i:Int) < (d:Int) - 1 - (i:Int)
  ·obtain ⟨j, hj⟩ : ∃ j : Nat, (d : Int) - 1 - (i : Int) = (j : Int) := ⟨d - 1 - i, by omega⟩
   have hlt:decide ((i:Int) < (j:Int))=true:=by simp; omega
   have hlt':(i:Int) < (j:Int):=by omega
   have hi':(i:Int) < (d:Int):=by omega
   have hj':(j:Int) < (d:Int):=by omega
   have hadd:IntKind.i64.wrap ((i:Int)+1)=((i+1:Nat):Int):=by have:=HN.out; rw [zx]; omega
   have hsub:IntKind.i64.wrap ((j:Int) - 1)=(d:Int) - 1 - ((i+1:Nat):Int):=by have:=HN.out; rw [zx]; omega
   obtain ⟨ui,hui⟩:∃ u,l[i]?=some u:=⟨l[i]'(by rw [HR.out.len]; omega),zg _⟩
   obtain ⟨uj,huj⟩:∃ u,l[j]?=some u:=⟨l[j]'(by rw [HR.out.len]; omega),zg _⟩
   obtain ⟨a0,a1⟩:=zci hui
   obtain ⟨b0,b1⟩:=zci huj
   have hb:=HR.out.blk
   have f0:=fun (k:Nat)=>Blk.frozen (k:=hb) (i:=k)
   have k1:=zaR (i:=i * 2) (x := .bool uj.b) hb
   have f1:=fun (k:Nat)=>Blk.frozen (k:=k1) (i:=k)
   have k2:=zaR (i:=i * 2+1) (x := .slice uj.m.A uj.m.k uj.m.c) k1
   have f2:=fun (k:Nat)=>Blk.frozen (k:=k2) (i:=k)
   have k3:=zaR (i:=j * 2) (x := .bool ui.b) k2
   have f3:=fun (k:Nat)=>Blk.frozen (k:=k3) (i:=k)
   have ca0:wr.cell? ⟨g1,i * 2,none⟩=some (.bool ui.b):=(Blk.cell (k:=hb)).trans (by rw [zaI,List.getElem?_toArray,a0])
   have ca1:wr.cell? ⟨g1,i * 2+1,none⟩=some (.slice ui.m.A ui.m.k ui.m.c):=(Blk.cell (k:=hb)).trans (by rw [zaI,List.getElem?_toArray,a1])
   have cb0:wr.cell? ⟨g1,j * 2,none⟩=some (.bool uj.b):=(Blk.cell (k:=hb)).trans (by rw [zaI,List.getElem?_toArray,b0])
   have cb1:wr.cell? ⟨g1,j * 2+1,none⟩=some (.slice uj.m.A uj.m.k uj.m.c):=(Blk.cell (k:=hb)).trans (by rw [zaI,List.getElem?_toArray,b1])
   have cc1:(wr.setCell ⟨g1,i * 2,none⟩ (.bool uj.b)).cell? ⟨g1,i * 2+1,none⟩=some (.slice ui.m.A ui.m.k ui.m.c):=(Blk.cell (k:=k1)).trans (by rw [List.getElem?_toArray,List.getElem?_set_ne (by omega),a1])
   have cc2:((wr.setCell ⟨g1,i * 2,none⟩ (.bool uj.b)).setCell ⟨g1,i * 2+1,none⟩ (.slice uj.m.A uj.m.k uj.m.c)).cell? ⟨g1,j * 2,none⟩=some (.bool uj.b):=(Blk.cell (k:=k2)).trans (by rw [List.getElem?_toArray,List.getElem?_set_ne (by omega),List.getElem?_set_ne (by omega),b0])
   have cc3:(((wr.setCell ⟨g1,i * 2,none⟩ (.bool uj.b)).setCell ⟨g1,i * 2+1,none⟩ (.slice uj.m.A uj.m.k uj.m.c)).setCell ⟨g1,j * 2,none⟩ (.bool ui.b)).cell? ⟨g1,j * 2+1,none⟩=some (.slice uj.m.A uj.m.k uj.m.c):=(Blk.cell (k:=k3)).trans (by rw [List.getElem?_toArray,List.getElem?_set_ne (by omega),List.getElem?_set_ne (by omega),List.getElem?_set_ne (by omega),b1])
   have HS:=zc (HR.out.step (i:=i) (j:=j) (by omega) (by omega) hui huj HUL.out)
   rw [hj]
   clear hui huj a0 a1 b0 b1 hb k1 k2 k3 hid hij hj
   go_upto_region 3 with fail
   go_region
   all_goals go_wp2_with fail
   all_goals go_roundg (d - (i+1))
   case measure=>omega
   case rel=>exact ⟨i+1,_,by simp,by simp,by omega,rfl,HS.out.drew⟩
  ·have hlt : decide ((i : Int) < (d : Int) - 1 - (i : Int)) = false := decide_eq_false hij
   have hl:=HR.out.fin HUL.out (by omega)
   have hZ:ZAt wr (.slice (some ⟨g1,0,none⟩) d d) zs.reverse:=by
    refine ⟨g1,l,by rw [List.length_reverse,HZN.out],HR.out.blk,by rw [hl,List.length_reverse,List.length_reverse,HUL.out,HZN.out],fun k u z hu hz=>HR.out.ints _ _ ?_⟩
    have hk:k < d:=by rw [<- HR.out.len]; exact (zh.1 hu).1
    rw [hl,List.getElem?_reverse (by rw [HUL.out]; exact hk),HUL.out] at hu
    rw [List.getElem?_reverse (by rw [HZN.out]; exact hk),HZN.out] at hz
    exact HQ.out _ _ _ hu hz
   have HZ:=zc hZ
   clear hZ hl hid
   go_wp2_with fail
   go_end0
   exact ⟨rfl,HZ.out,HR.out.ints,HR.out.but⟩
end Go.Proofs.YtombhkpniddceaaGreatDoor
