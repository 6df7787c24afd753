import Derived.Test.YtombhkpniddceaaGreatDoorM01
set_option maxHeartbeats 4000000
set_option maxRecDepth 100000
set_option linter.all false
namespace Go.Proofs.YtombhkpniddceaaGreatDoor
open Go.RowKit
theorem zmd (lo y:Nat) (hy:0 < y) (hlo:lo < B64) (w:World):
  Calls Tryz.prog 271 #[.int .u64 0,.int .u64 (lo:Int),.int .u64 (y:Int)] w fun e w'=>e = .returned (.tuple #[.int .u64 ((lo / y:Nat):Int),.int .u64 ((lo % y:Nat):Int)])/\Drew w w':=by
 have hz:((y:Int) == 0)=false:=by simp; omega
 go_enter Tryz.func271,Tryz.ntmps271
 go_wp2_with fail
 go_quiet (fail)
 go_wp2_with fail
 go_ret2
 refine ⟨?_,(Drew.refl w).more _⟩
 rw [<- Int.natCast_ediv,wrapu (Nat.lt_of_le_of_lt (Nat.div_le_self _ _) hlo)]
 simp
structure DivPre (hi lo y s Y y1 y0 u d1 d0:Nat):Prop where
 hY:Y=y * 2 ^ s
 parts:Y=y1 * W32+y0
 y0l:y0 < W32
 y1l:y1 < W32
 y1g:2147483648 <= y1
 num:(hi * B64+lo) * 2 ^ s=u * W32 * W32+d1 * W32+d0
 ul:u < Y
 d1l:d1 < W32
 d0l:d0 < W32
 Yl:Y < B64
 sl:s < 64
theorem zkc {n:Nat} (h:n < B64):bits .and .u64 (n:Int) 4294967295=((n % W32:Nat):Int):=by
 have:=bits_and_u64_nat n 4294967295 h (by decide)
 rw [show (4294967295:Int)=((4294967295:Nat):Int) from rfl,this]
 have e:n &&& 4294967295=n % 2 ^ 32:=Nat.and_two_pow_sub_one_eq_mod n 32
 rw [e]
 rfl
theorem zic (n:Nat):(n:Int) / 4294967296=((n / W32:Nat):Int):=by
 unfold W32; omega
theorem div_pre {hi lo y:Nat} (h0:0 < hi) (hh:hi < y) (hlo:lo < B64) (hy:y < B64):
  DivPre hi lo y (64 - bl y) (shlW y (64 - bl y)) (shlW y (64 - bl y) / W32) (shlW y (64 - bl y) % W32) (shlW hi (64 - bl y)+shrW lo (64 - (64 - bl y))) (shlW lo (64 - bl y) / W32) (shlW lo (64 - bl y) % W32):=by
 obtain ⟨b1,b2,b3⟩:=zco (show y ≠ 0 by omega)
 have hbl:=bl_le (k:=64) (n:=y) hy
 have hs:64 - bl y < 64:=by omega
 have hBs:2 ^ bl y * 2 ^ (64 - bl y)=B64:=by rw [<- Nat.pow_add,show bl y+(64 - bl y)=64 by omega]; rfl
 have hBs':2 ^ (bl y - 1) * 2 ^ (64 - bl y)=2 ^ 63:=by rw [<- Nat.pow_add,show bl y - 1+(64 - bl y)=63 by omega]
 generalize hsd:64 - bl y=s at *
 have hYl:y * 2 ^ s < B64:=by rw [<- hBs]; exact Nat.mul_lt_mul_of_pos_right b3 (Nat.two_pow_pos s)
 have hYg:2 ^ 63 <= y * 2 ^ s:=by rw [<- hBs']; exact Nat.mul_le_mul_right _ b2
 have hY:shlW y s=y * 2 ^ s:=by unfold shlW; exact Nat.mod_eq_of_lt hYl
 have hhl:(hi+1) * 2 ^ s <= y * 2 ^ s:=Nat.mul_le_mul_right _ hh
 rw [Nat.add_mul,Nat.one_mul] at hhl
 have hps:=Nat.two_pow_pos s
 have hH:shlW hi s=hi * 2 ^ s:=by unfold shlW; exact Nat.mod_eq_of_lt (by omega)
 have hshr:=zec (s:=s) hlo (by omega)
 have hsh:=zjH (x:=lo) (s:=s) (by omega)
 rw [hY,hH]
 generalize hYe:y * 2 ^ s=Y at *
 generalize hHe:hi * 2 ^ s=H at *
 refine ⟨hYe.symm,?_,Nat.mod_lt _ (by decide),?_,?_,?_,by omega,?_,Nat.mod_lt _ (by decide),hYl,hs⟩
 ·have := Nat.div_add_mod Y W32
  rw [zw]; exact this.symm
 ·unfold W32; unfold B64 at hYl; omega
 ·unfold W32; omega
 ·have e : shlW lo s / W32 * W32 + shlW lo s % W32 = shlW lo s := by rw [zw]; exact Nat.div_add_mod _ _
  rw [Nat.add_assoc,e,Nat.add_mul,<- hsh,Nat.mul_assoc (H+_) W32 W32,show W32 * W32=B64 from by decide,Nat.add_mul,<- hHe,Nat.mul_assoc,zw B64 (2 ^ s),<- Nat.mul_assoc,zw B64 (shrW _ _)]
  omega
 ·have := zed lo s
  unfold W32; unfold B64 at this; omega
theorem or_high {hi lo s:Nat} (hlo:lo < B64) (hs:s <= 64):bits .or .u64 (IntKind.u64.wrap ((hi:Int) * 2 ^ s)) ((lo:Int) / 2 ^ (64 - s))=((shlW hi s+shrW lo (64 - s):Nat):Int):=by
 rw [zb9,zda,bits_or_u64_nat _ _ (zed _ _) (Nat.lt_of_le_of_lt (zg3 _ _) hlo)]
 have h1:=zec (s:=s) hlo hs
 rw [Nat.or_comm,zdF hs,znW h1,Nat.add_comm]
theorem zkI (hi lo y:Nat) (h0:0 < hi) (hh:hi < y) (hlo:lo < B64) (hy:y < B64) (w:World):
  Calls Tryz.prog 271 #[.int .u64 (hi:Int),.int .u64 (lo:Int),.int .u64 (y:Int)] w fun e w'=>e = .returned (.tuple #[.int .u64 (((hi * B64+lo) / y:Nat):Int),.int .u64 (((hi * B64+lo) % y:Nat):Int)])/\Drew w w':=by
 have hz:((y:Int) == 0)=false:=by simp; omega
 have hz2:((hi:Int) == 0)=false:=by simp; omega
 have hbl:=bl_le (k:=64) (n:=y) hy
 go_enter Tryz.func271,Tryz.ntmps271
 go_upto_region 14 with (go_at_call 265; refine (zcY y hy _).mono ?_; rintro e w' ⟨rfl,rfl⟩)
 go_cut [2,8,9,10,11,13,14] (fun s2 s8 s9 s10 s11 s13 s14 wx=>wx=w/\∃ s Y y1 y0 u d1 d0:Nat,s2 = .int .u64 (Y:Int)/\s8 = .int .u64 (s:Int)/\s9 = .int .u64 (y1:Int)/\s10 = .int .u64 (y0:Int)/\s11 = .int .u64 (u:Int)/\s13 = .int .u64 (d1:Int)/\s14 = .int .u64 (d0:Int)/\DivPre hi lo y s Y y1 y0 u d1 d0)
 case first=>
  have hpre:=div_pre h0 hh hlo hy
  have hHs:hi * 2 ^ (64 - bl y) < B64:=by
   have h1:=hpre.ul
   have h2:=hpre.Yl
   have h3:=hpre.hY
   have:hi * 2 ^ (64 - bl y) <= y * 2 ^ (64 - bl y):=Nat.mul_le_mul_right _ (Nat.le_of_lt hh)
   omega
  go_wp2_with fail
  go_meet
  refine ⟨rfl,_,_,_,_,_,_,_,?_,?_,?_,?_,?_,?_,?_,hpre⟩
  ·rw [zb9]
  ·congr 1; omega
  ·rw [zb9,zic]
  ·rw [zb9,zkc (zed _ _)]
  ·rw [or_high hlo (by omega)]
  ·rw [zb9,zic]
  ·rw [zb9,zkc (zed _ _)]
 case rest=>
  obtain ⟨rfl,s,Y,y1,y0,u,d1,d0,rfl,rfl,rfl,rfl,rfl,rfl,rfl,hp⟩:=hcut
  have h1:=hp.y1g
  have hu64:u < B64:=Nat.lt_trans hp.ul hp.Yl
  have hW:W32=4294967296:=rfl
  have hy1p:0 < y1:=by omega
  have hul:u < y1 * W32+y0:=by rw [<- hp.parts]; exact hp.ul
  have HP:=zc hp
  have HUL:=zc hul
  have hd1:d1 < 4294967296:=hp.d1l
  have hd0:d0 < 4294967296:=hp.d0l
  have hy1l:y1 < 4294967296:=hp.y1l
  have hy0l:y0 < 4294967296:=hp.y0l
  have hq0:IntKind.u64.wrap ((u:Int) / (y1:Int))=((u / y1:Nat):Int):=by
   rw [<- Int.natCast_ediv]; exact wrapu (Nat.lt_of_le_of_lt (Nat.div_le_self _ _) hu64)
  have hr0:IntKind.u64.wrap ((u:Int) - IntKind.u64.wrap (((u / y1:Nat):Int) * (y1:Int)))=((u % y1:Nat):Int):=by
   have e1:=Nat.div_add_mod u y1
   have e2:u / y1 * y1 < B64:=by rw [zw]; omega
   rw [<- Int.natCast_mul,wrapu e2,show (u:Int) - ((u / y1 * y1:Nat):Int)=((u % y1:Nat):Int) by rw [zw] at e1; omega]
   exact wrapu (by have:=Nat.mod_le u y1; omega)
  have HQ0:=zc hq0; have HR0:=zc hr0; have HW:=zc hW
  clear hp hul hq0 hr0 hW
  go_upto_block 0 with fail
  rw [HQ0.out,HR0.out]
  go_cut [15] (fun s15 wx=>wx=wc/\∃ q1:Nat,s15 = .int .u64 (q1:Int)/\q1=(u * W32+d1) / Y)
  case first=>
   go_wp2_with fail
   go_loop [15,16] (fun s15 s16=>∃ q r:Nat,s15 = .int .u64 (q:Int)/\s16 = .int .u64 (r:Int)/\q < 2 * W32/\r < W32/\Guess y1 y0 u d1 q r) (fun s15 _=>(intOf s15).toNat)
   case atStart=>exact ⟨_,_,rfl,rfl,(by rw [Nat.div_lt_iff_lt_mul hy1p]; unfold W32; unfold B64 at hu64; omega),Nat.lt_trans (Nat.mod_lt _ hy1p) hy1l,zfN hy1p HP.out.d1l⟩
   case round=>
    obtain ⟨q,r,rfl,rfl,hq,hr,hg⟩:=hrel
    have HG:=zc hg
    have hr':r < 4294967296:=hr
    have hq':q < 8589934592:=hq
    clear hg hr hq
    by_cases hA:4294967296 <= q
    ·have hA1 : decide ((4294967296 : Int) <= (q : Int)) = true := by simp; omega
     have hA2:(4294967296:Int) <= (q:Int):=by omega
     obtain ⟨hpos,hn⟩:=zdf HG.out hy1p HUL.out HP.out.d1l (.inl hA)
     have HN:=zc hn
     clear hn hA
     by_cases hbig:4294967296 <= r+y1
     ·have hb1 : decide ((4294967296 : Int) <= (r : Int) + (y1 : Int)) = true := by simp; omega
      have HB:=zc hbig
      clear hbig
      go_wp2_with fail
      go_meet
      refine ⟨rfl,q - 1,by rw [show (q:Int) - 1=((q - 1:Nat):Int) by omega],?_⟩
      have hb:=zdR HN.out HUL.out HP.out.y0l HB.out
      rw [HP.out.parts]
      exact zcz HN.out (by have:=HUL.out; omega) hb.2
     ·have hb1 : decide ((4294967296 : Int) <= (r : Int) + (y1 : Int)) = false := by simp; omega
      have HB:=zc hbig
      clear hbig
      go_wp2_with fail
      go_round
      case rel=>exact ⟨q - 1,r+y1,by rw [show (q:Int) - 1=((q - 1:Nat):Int) by omega],by go_num,by unfold W32; omega,by have:=HB.out; unfold W32; omega,HN.out⟩
      case measure=>simp [intOf]; omega
    ·have hA1 : decide ((4294967296 : Int) <= (q : Int)) = false := by simp; omega
     have hA2:(q:Int) < 4294967296:=by omega
     have hqy:q * y0 < B64:=by
      have:=Nat.mul_le_mul (show q <= 4294967295 by omega) (show y0 <= 4294967295 by omega)
      unfold B64; omega
     have hqw:IntKind.u64.wrap ((q:Int) * (y0:Int))=((q * y0:Nat):Int):=by rw [<- Int.natCast_mul]; exact wrapu hqy
     generalize hp:q * y0=p at hqw
     have HPP:=zc hp
     clear hp hA hqy
     by_cases hB:4294967296 * r+d1 < p
     ·have hB1 : decide (4294967296 * (r : Int) + (d1 : Int) < (p : Int)) = true := by simp; omega
      obtain ⟨hpos,hn⟩:=zdf HG.out hy1p HUL.out HP.out.d1l (.inr (by rw [HPP.out]; exact hB))
      have HN:=zc hn
      clear hn hB
      by_cases hbig:4294967296 <= r+y1
      ·have hb1 : decide ((4294967296 : Int) <= (r : Int) + (y1 : Int)) = true := by simp; omega
       have HB:=zc hbig
       clear hbig
       go_wp2_with fail
       go_meet
       refine ⟨rfl,q - 1,by rw [show (q:Int) - 1=((q - 1:Nat):Int) by omega],?_⟩
       have hb:=zdR HN.out HUL.out HP.out.y0l HB.out
       rw [HP.out.parts]
       exact zcz HN.out (by have:=HUL.out; omega) hb.2
      ·have hb1 : decide ((4294967296 : Int) <= (r : Int) + (y1 : Int)) = false := by simp; omega
       have HB:=zc hbig
       clear hbig
       go_wp2_with fail
       go_round
       case rel=>exact ⟨q - 1,r+y1,by rw [show (q:Int) - 1=((q - 1:Nat):Int) by omega],by go_num,by unfold W32; omega,by have:=HB.out; unfold W32; omega,HN.out⟩
       case measure=>simp [intOf]; omega
     ·have hB1 : decide (4294967296 * (r : Int) + (d1 : Int) < (p : Int)) = false := by simp; omega
      have HB:=zc hB
      clear hB
      go_wp2_with fail
      go_meet
      refine ⟨rfl,q,rfl,?_⟩
      rw [HP.out.parts]
      exact zcz HG.out (by have:=HUL.out; omega) (by rw [HPP.out]; exact HB.out)
  case rest=>
   obtain ⟨hwx,q1,rfl,hq1⟩:=hcut
   subst hwx
   have hYp:0 < Y:=by have:=HP.out.ul; omega
   have hq1m:q1 * Y <= u * W32+d1:=by rw [hq1]; exact Nat.div_mul_le_self _ _
   have hq1l:q1 < W32:=by rw [hq1,HP.out.parts]; exact zj5 HUL.out HP.out.d1l
   have hr1:u * W32+d1 - q1 * Y < Y:=by
    have e1:=Nat.div_add_mod (u * W32+d1) Y
    have e2:=Nat.mod_lt (u * W32+d1) hYp
    rw [<- hq1,zw] at e1
    omega
   have hYl:Y < B64:=HP.out.Yl
   obtain ⟨u2,hu2⟩:∃ u2,u2=u * W32+d1 - q1 * Y:=⟨_,rfl⟩
   have hU:IntKind.u64.wrap (IntKind.u64.wrap (IntKind.u64.wrap ((u:Int) * 4294967296)+(d1:Int)) - IntKind.u64.wrap ((q1:Int) * (Y:Int)))=(u2:Int):=by
    rw [<- Int.natCast_mul]
    generalize hp:q1 * Y=p at *
    simp only [IntKind.wrap_u64]
    unfold W32 at hu2 hq1m hr1
    unfold B64 at hYl
    omega
   have hu2l:u2 < Y:=by rw [hu2]; exact hr1
   have hu264:u2 < B64:=Nat.lt_trans hu2l hYl
   have hul2:u2 < y1 * W32+y0:=by rw [<- HP.out.parts]; exact hu2l
   have hq2:IntKind.u64.wrap ((u2:Int) / (y1:Int))=((u2 / y1:Nat):Int):=by
    rw [<- Int.natCast_ediv]; exact wrapu (Nat.lt_of_le_of_lt (Nat.div_le_self _ _) hu264)
   have hr2:IntKind.u64.wrap ((u2:Int) - IntKind.u64.wrap (((u2 / y1:Nat):Int) * (y1:Int)))=((u2 % y1:Nat):Int):=by
    have e1:=Nat.div_add_mod u2 y1
    have e2:u2 / y1 * y1 < B64:=by rw [zw]; omega
    rw [<- Int.natCast_mul,wrapu e2,show (u2:Int) - ((u2 / y1 * y1:Nat):Int)=((u2 % y1:Nat):Int) by rw [zw] at e1; omega]
    exact wrapu (by have:=Nat.mod_le u2 y1; omega)
   have HQ2:=zc hq2; have HR2:=zc hr2; have HU:=zc hU; have HUL2:=zc hul2; have HU2:=zc hu2; have HQ1:=zc hq1
   have HQ1L:=zc hq1l; have HU264:=zc hu264; have HU2L:=zc hu2l
   clear hq2 hr2 hU hul2 hu2 hq1 hq1m hr1 hYl hq1l hu264 hu2l
   go_upto_block 2 with fail
   rw [HU.out,Int.tdiv_eq_ediv_of_nonneg (Int.natCast_nonneg u2),HQ2.out,HR2.out]
   go_cut [18] (fun s18 wx=>wx=wc/\∃ q0:Nat,s18 = .int .u64 (q0:Int)/\q0=(u2 * W32+d0) / Y)
   case first=>
    go_wp2_with fail
    go_loop [18,16] (fun s18 s16=>∃ q r:Nat,s18 = .int .u64 (q:Int)/\s16 = .int .u64 (r:Int)/\q < 2 * W32/\r < W32/\Guess y1 y0 u2 d0 q r) (fun s18 _=>(intOf s18).toNat)
    case atStart=>exact ⟨_,_,rfl,rfl,(by rw [Nat.div_lt_iff_lt_mul hy1p]; have hu64:=HU264.out; unfold W32; unfold B64 at hu64; omega),Nat.lt_trans (Nat.mod_lt _ hy1p) hy1l,zfN hy1p HP.out.d0l⟩
    case round=>
     obtain ⟨q,r,rfl,rfl,hq,hr,hg⟩:=hrel
     have HG:=zc hg
     have hr':r < 4294967296:=hr
     have hq':q < 8589934592:=hq
     clear hg hr hq
     by_cases hA:4294967296 <= q
     ·have hA1 : decide ((4294967296 : Int) <= (q : Int)) = true := by simp; omega
      have hA2:(4294967296:Int) <= (q:Int):=by omega
      obtain ⟨hpos,hn⟩:=zdf HG.out hy1p HUL2.out HP.out.d0l (.inl hA)
      have HN:=zc hn
      clear hn hA
      by_cases hbig:4294967296 <= r+y1
      ·have hb1 : decide ((4294967296 : Int) <= (r : Int) + (y1 : Int)) = true := by simp; omega
       have HB:=zc hbig
       clear hbig
       go_wp2_with fail
       go_meet
       refine ⟨rfl,q - 1,by rw [show (q:Int) - 1=((q - 1:Nat):Int) by omega],?_⟩
       have hb:=zdR HN.out HUL2.out HP.out.y0l HB.out
       rw [HP.out.parts]
       exact zcz HN.out (by have:=HUL2.out; omega) hb.2
      ·have hb1 : decide ((4294967296 : Int) <= (r : Int) + (y1 : Int)) = false := by simp; omega
       have HB:=zc hbig
       clear hbig
       go_wp2_with fail
       go_round
       case rel=>exact ⟨q - 1,r+y1,by rw [show (q:Int) - 1=((q - 1:Nat):Int) by omega],by go_num,by unfold W32; omega,by have:=HB.out; unfold W32; omega,HN.out⟩
       case measure=>simp [intOf]; omega
     ·have hA1 : decide ((4294967296 : Int) <= (q : Int)) = false := by simp; omega
      have hA2:(q:Int) < 4294967296:=by omega
      have hqy:q * y0 < B64:=by
       have:=Nat.mul_le_mul (show q <= 4294967295 by omega) (show y0 <= 4294967295 by omega)
       unfold B64; omega
      have hqw:IntKind.u64.wrap ((q:Int) * (y0:Int))=((q * y0:Nat):Int):=by rw [<- Int.natCast_mul]; exact wrapu hqy
      generalize hp:q * y0=p at hqw
      have HPP:=zc hp
      clear hp hA hqy
      by_cases hB:4294967296 * r+d0 < p
      ·have hB1 : decide (4294967296 * (r : Int) + (d0 : Int) < (p : Int)) = true := by simp; omega
       obtain ⟨hpos,hn⟩:=zdf HG.out hy1p HUL2.out HP.out.d0l (.inr (by rw [HPP.out]; exact hB))
       have HN:=zc hn
       clear hn hB
       by_cases hbig:4294967296 <= r+y1
       ·have hb1 : decide ((4294967296 : Int) <= (r : Int) + (y1 : Int)) = true := by simp; omega
        have HB:=zc hbig
        clear hbig
        go_wp2_with fail
        go_meet
        refine ⟨rfl,q - 1,by rw [show (q:Int) - 1=((q - 1:Nat):Int) by omega],?_⟩
        have hb:=zdR HN.out HUL2.out HP.out.y0l HB.out
        rw [HP.out.parts]
        exact zcz HN.out (by have:=HUL2.out; omega) hb.2
       ·have hb1 : decide ((4294967296 : Int) <= (r : Int) + (y1 : Int)) = false := by simp; omega
        have HB:=zc hbig
        clear hbig
        go_wp2_with fail
        go_round
        case rel=>exact ⟨q - 1,r+y1,by rw [show (q:Int) - 1=((q - 1:Nat):Int) by omega],by go_num,by unfold W32; omega,by have:=HB.out; unfold W32; omega,HN.out⟩
        case measure=>simp [intOf]; omega
      ·have hB1 : decide (4294967296 * (r : Int) + (d0 : Int) < (p : Int)) = false := by simp; omega
       have HB:=zc hB
       clear hB
       go_wp2_with fail
       go_meet
       refine ⟨rfl,q,rfl,?_⟩
       rw [HP.out.parts]
       exact zcz HG.out (by have:=HUL2.out; omega) (by rw [HPP.out]; exact HB.out)
   case rest=>
    obtain ⟨hwx,q0,rfl,hq0⟩:=hcut
    subst hwx
    have hQ1:=HQ1.out
    rw [HU2.out] at hq0
    obtain ⟨t1,t2⟩:=zkh hYp hQ1 hq0
    rw [<- HU2.out] at t2
    have hsp:0 < 2 ^ s:=Nat.two_pow_pos s
    have hyp:0 < y:=by omega
    have eQ:q1 * W32+q0=(hi * B64+lo) / y:=by
     rw [t1,<- HP.out.num,HP.out.hY,Nat.mul_div_mul_right _ _ hsp]
    have eR:u2 * W32+d0 - q0 * Y=(hi * B64+lo) % y * 2 ^ s:=by
     rw [t2,<- HP.out.num,HP.out.hY,Nat.mul_mod_mul_right]
    have hQl:(hi * B64+lo) / y < B64:=by
     rw [Nat.div_lt_iff_lt_mul hyp]
     have:(hi+1) * B64 <= y * B64:=Nat.mul_le_mul_right _ hh
     rw [Nat.add_mul] at this
     rw [zw B64]
     omega
    have hRl:(hi * B64+lo) % y * 2 ^ s < Y:=by
     rw [HP.out.hY]
     exact Nat.mul_lt_mul_of_pos_right (Nat.mod_lt _ hyp) hsp
    have hYl:Y < B64:=HP.out.Yl
    have hq0m:q0 * Y <= u2 * W32+d0:=by
     rw [hq0,HU2.out]
     exact Nat.div_mul_le_self _ _
    have hA:IntKind.u64.wrap (IntKind.u64.wrap ((q1:Int) * 4294967296)+(q0:Int))=(((hi * B64+lo) / y:Nat):Int):=by
     generalize (hi * B64+lo) / y=Q at *
     simp only [IntKind.wrap_u64]
     unfold W32 at eQ
     unfold B64 at hQl
     omega
    have hB:IntKind.u64.wrap (IntKind.u64.wrap (IntKind.u64.wrap ((u2:Int) * 4294967296)+(d0:Int)) - IntKind.u64.wrap ((q0:Int) * (Y:Int)))=(((hi * B64+lo) % y * 2 ^ s:Nat):Int):=by
     rw [<- Int.natCast_mul q0 Y]
     generalize (hi * B64+lo) % y * 2 ^ s=R at *
     generalize hp:q0 * Y=p at *
     simp only [IntKind.wrap_u64]
     unfold W32 at eR hq0m
     unfold B64 at hYl
     omega
    have hsl:s < 64:=HP.out.sl
    have HA:=zc hA; have HB:=zc hB
    clear hQ1 hq0 t1 t2 eQ eR hQl hRl hYl hq0m hA hB
    go_wp2_with fail
    rw [HA.out,HB.out,zda,show shrW ((hi * B64+lo) % y * 2 ^ s) s=(hi * B64+lo) % y from Nat.mul_div_cancel _ hsp]
    go_ret2
    exact ⟨rfl,Drew.refl _⟩
theorem div64 (hi lo y:Nat) (hh:hi < y) (hlo:lo < B64) (hy:y < B64) (w:World):
  Calls Tryz.prog 271 #[.int .u64 (hi:Int),.int .u64 (lo:Int),.int .u64 (y:Int)] w fun e w'=>e = .returned (.tuple #[.int .u64 (((hi * B64+lo) / y:Nat):Int),.int .u64 (((hi * B64+lo) % y:Nat):Int)])/\Drew w w':=by
 rcases Nat.eq_zero_or_pos hi with h0 | h0
 ·subst h0
  rw [Nat.zero_mul,Nat.zero_add]
  exact zmd lo y hh hlo w
 ·exact zkI hi lo y h0 hh hlo hy w
theorem Buf.drewD {w w':World} {g:Nat} {ws:List Nat} (h:Buf w g ws) (hd:Drew w w'):Buf w' g ws:=h.below (hd.below _)
structure DwSt (w0 w:World) (g:Nat) (us:List Nat) (b k rem:Nat):Prop where
 ex:∃ qs:List Nat,qs.length+k=us.length/\Buf w g (List.replicate k 0 ++ qs)/\val (us.drop k)=val qs * b+rem
 lt:rem < b
 below:Below w0.heap.size w0 w
 new:w0.heap.size <= g
section
variable {w0 w:World} {g:Nat} {us:List Nat} {b j rem:Nat}
theorem DwSt.next {w1 w2:World} (h:DwSt w0 w g us b (j+1) rem) {x:Nat} (hx:us[j]?=some x) (hxl:x < B64) (h1:Drew w w1)
  (h2:w2=w1.setCell ⟨g,j,none⟩ (.int .u64 (((rem * B64+x) / b:Nat):Int))):DwSt w0 w2 g us b j ((rem * B64+x) % b):=by
 subst h2
 obtain ⟨⟨qs,hl,hb,hv⟩,hlt,hbe,hnew⟩:=h
 obtain ⟨hj,hxe⟩:=zh.1 hx
 have hq:(rem * B64+x) / b < B64:=by
  rw [Nat.div_lt_iff_lt_mul (by omega)]
  have:(rem+1) * B64 <= b * B64:=Nat.mul_le_mul_right _ hlt
  rw [Nat.add_mul] at this
  rw [zw B64]
  omega
 refine ⟨⟨(rem * B64+x) / b :: qs,by simp; omega,?_,?_⟩,Nat.mod_lt _ (by omega),(hbe.trans (h1.below _)).setCell hnew _,hnew⟩
 ·have := (hb.drewD h1).set_ j _ hq
  rw [List.replicate_succ',List.append_assoc,List.set_append_right _ _ (by simp)] at this
  simpa using this
 ·rw [List.drop_eq_getElem_cons hj, hxe, val, hv, val]
  have:=Nat.div_add_mod (rem * B64+x) b
  rw [Nat.add_mul,Nat.mul_add,zw ((rem * B64+x) / b) b,Nat.mul_assoc,zw rem B64] at *
  omega
theorem DwSt.cell (h:DwSt w0 w g us b (j+1) rem):w.cell? ⟨g,j,none⟩=some (.int .u64 0)/\w.frozen? ⟨g,j,none⟩=false:=by
 obtain ⟨⟨qs,hl,hb,hv⟩,hlt,hbe,hnew⟩:=h
 exact ⟨hb.cell (x:=0) (by rw [List.getElem?_append_left (by simp)]; simp),hb.frozen _⟩
end
theorem zhf (A:Option Addr) (c:Nat) (us:List Nat) (b:Nat) (w:World) (ha:WordsAt w A us) (hl:us.length <= MaxW) (hb0:0 < b) (hb:b < B64):
  Calls Tryz.prog 243 #[.slice A us.length c,.int .u64 (b:Int)] w fun e w'=>
   ∃ v,e = .returned (.tuple #[v,.int .u64 ((val us % b:Nat):Int)])/\NatIs w' v (val us / b)/\Below w.heap.size w w':=by
 unfold MaxW at hl
 have hmk:∀ w:World,(Instr.makeSlice 96 (.int .i64 (us.length:Int)) (.int .i64 (us.length:Int))).run Tryz.prog w = .ok (.slice (some ⟨w.heap.size,0,none⟩) us.length us.length) (w.alloc (za6 us.length)):=zew us.length (by omega)
 go_enter Tryz.func243,Tryz.ntmps243
 go_wp2_with fail
 go_loopw [7,8] (fun s i wr=>∃ k rem:Nat,k <= us.length/\i = .int .i64 ((k:Int) - 1)/\s = .int .u64 (rem:Int)/\DwSt w wr w.heap.size us b k rem) (fun _ i _=>(intOf i+1).toNat)
 case atStart=>exact ⟨us.length,0,zv _,rfl,rfl,⟨[],by simp,by simpa using zc6 w us.length,by simp [val]⟩,hb0,(Below.refl _ _).alloc (zv _) _,zv _⟩
 case round=>
  obtain ⟨k,rem,hk,rfl,rfl,hst⟩:=hrel
  by_cases h0:0 < k
  ·obtain ⟨j, rfl⟩ : ∃ j, k = j + 1 := ⟨k - 1, by omega⟩
   rw [show ((j+1:Nat):Int) - 1=(j:Int) by omega]
   obtain ⟨ad,x,rfl,_,hcx,hxl,HX⟩:=(ha.below hst.below).get (show j < us.length by omega)
   obtain ⟨hz0,hz1⟩:=hst.cell
   go_wp2_with fail
   refine (div64 rem x b hst.lt hxl hb _).mono ?_
   rintro e w1 ⟨rfl,hd⟩
   have hz2:w1.cell? ⟨w.heap.size,j,none⟩=some (.int .u64 0):=by obtain ⟨_,rfl⟩:=hd; exact hz0
   have hz3:w1.frozen? ⟨w.heap.size,j,none⟩=false:=by obtain ⟨_,rfl⟩:=hd; exact hz1
   have HN:Hid (DwSt w (w1.setCell ⟨w.heap.size,j,none⟩ (.int .u64 (((rem * B64+x) / b:Nat):Int))) w.heap.size us b j ((rem * B64+x) % b)):=hst.next HX.out hxl hd rfl
   generalize (rem * B64+x) / b=q at *
   generalize (rem * B64+x) % b=r at *
   go_wp2_with fail
   go_roundw
   case rel=>exact ⟨j,r,by omega,rfl,rfl,HN.out⟩
   case measure=>simp [intOf]
  ·have hk0 : k = 0 := by omega
   obtain ⟨⟨qs,hql,hqb,hv⟩,hlt,hbe,_⟩:=hst
   rw [hk0,List.replicate_zero,List.nil_append] at hqb
   rw [hk0,List.drop_zero] at hv
   have hlen:qs.length=us.length:=by omega
   have e1:val us / b=val qs:=by rw [hv,zw,Nat.mul_add_div hb0,Nat.div_eq_of_lt hlt]; rfl
   have e2:val us % b=rem:=by rw [hv,zw,Nat.mul_add_mod,Nat.mod_eq_of_lt hlt]
   have HE1:=zc e1; have HE2:=zc e2
   have hw3:=hqb.words 0 qs.length
   rw [List.drop_zero,List.take_length] at hw3
   have c3:=zaK (some ⟨w.heap.size,0,none⟩) us.length qs _ hw3 (by omega) (by unfold maxLen; omega) _ rfl
   rw [hlen] at c3
   clear hv e1 e2 hw3 hqb hql hlen
   go_wp2_with fail
   refine c3.mono ?_
   rintro e w3 ⟨v,rfl,hv,rfl⟩
   go_wp2_with fail
   go_ret2
   exact ⟨v,by rw [HE2.out]; rfl,by rw [HE1.out]; exact hv,hbe⟩
theorem zfw (v:Value) (a b:Nat) (w:World) (h1:NatIs w v a) (ha:wl a <= MaxW) (hb0:0 < b) (hb:b < B64):
  Calls Tryz.prog 243 #[v,.int .u64 (b:Int)] w fun e w'=>∃ v,e = .returned (.tuple #[v,.int .u64 ((a % b:Nat):Int)])/\NatIs w' v (a / b)/\Below w.heap.size w w':=by
 obtain ⟨A,c,rfl,h11,h12,h13⟩:=h1
 have:=zhf A c _ b w h13 ha hb0 hb
 rwa [zan] at this
theorem Only.drewD {g:Nat} {a b c:World} (h:Only g a b) (k:Drew b c):Only g a c:=by
 obtain ⟨n,rfl⟩:=k
 exact ⟨h.os,h.tape,h.output,h.size,h.block⟩
theorem zkf {xl t x D dt X q:Nat} (hxl:xl < (x+1) * X) (hD:dt * X <= D) (hdt:0 < dt) (hq:q=(xl+X * B64 * t) / D):q <= (t * B64+x) / dt:=by
 rw [Nat.le_div_iff_mul_le hdt]
 have h1:q * D <= xl+X * B64 * t:=by rw [hq]; exact Nat.div_mul_le_self _ _
 have h2:q * (dt * X) <= q * D:=Nat.mul_le_mul_left _ hD
 rw [<- Nat.mul_assoc] at h2
 have h3:xl+X * B64 * t < (t * B64+x+1) * X:=by
  rw [Nat.add_assoc (t * B64),Nat.add_mul (t * B64),Nat.mul_assoc X B64 t,zw X (B64 * t),zw B64 t]
  omega
 have h4:q * dt * X < (t * B64+x+1) * X:=by omega
 have:=Nat.lt_of_mul_lt_mul_right h4
 omega
structure zoa (w0 w:World) (g:Nat) (P S ds:List Nat) (xl t n f bw:Nat):Prop where
 ex:∃ ys:List Nat,ys.length=n/\Buf w g (P ++ ys ++ (t :: S))/\val ys+val ds * f=xl+B64 ^ n * bw
 ge:(xl+B64 ^ n * t) / val ds <= f
 fl:f < B64
 bl:bw < B64
 only:Only g w0 w
section
variable {w0 w:World} {g:Nat} {P S ds:List Nat} {xl t n f bw:Nat}
theorem zk1 (hd:0 < val ds) (hv:∃ ys:List Nat,val ys < B64 ^ n/\val ys+val ds * f=xl+B64 ^ n * bw) (h:t < bw):(xl+B64 ^ n * t) / val ds < f:=by
 obtain ⟨ys,hy,he⟩:=hv
 rw [Nat.div_lt_iff_lt_mul hd,zw f]
 have:B64 ^ n * (t+1) <= B64 ^ n * bw:=Nat.mul_le_mul_left _ h
 rw [Nat.mul_add,Nat.mul_one] at this
 omega
theorem zk2 {y:Nat} (hd:0 < val ds) (hdl:val ds <= B64 ^ n) (hge:(xl+B64 ^ n * t) / val ds <= f) (he:y+val ds * f=xl+B64 ^ n * bw) (h:¬ t < bw):
  f=(xl+B64 ^ n * t) / val ds/\y=(xl+B64 ^ n * t) % val ds:=by
 have h1:B64 ^ n * bw <= B64 ^ n * t:=Nat.mul_le_mul_left _ (by omega)
 have hf:f <= (xl+B64 ^ n * t) / val ds:=by
  rw [Nat.le_div_iff_mul_le hd,zw f]
  omega
 have hfe:f=(xl+B64 ^ n * t) / val ds:=Nat.le_antisymm hf hge
 refine ⟨hfe,?_⟩
 have hdm:=Nat.div_add_mod (xl+B64 ^ n * t) (val ds)
 have hml:=Nat.mod_lt (xl+B64 ^ n * t) hd
 rw [<- hfe] at hdm
 rcases Nat.lt_or_ge bw t with hlt | hge2
 ·have : B64 ^ n * (bw + 1) <= B64 ^ n * t := Nat.mul_le_mul_left _ hlt
  rw [Nat.mul_add,Nat.mul_one] at this
  omega
 ·have : t = bw := by omega
  subst this
  omega
end
theorem zeK (g o:Nat) (P S zs ds:List Nat) (n m c d t x dt:Nat) (A:Option Addr) (w:World) (hP:P.length=o) (hxn:zs.length=n) (hnm:m=n+1) (hdn:ds.length=m)
  (hw:Buf w g (P ++ (zs ++ [x]) ++ (t :: S))) (hb:WordsAt w A ds) (hB:∀ ad,A=some ad -> 0 < ds.length -> ad.block ≠ g) (hdt:ds[n]?=some dt) (hdt0:0 < dt)
  (hc:m+1 <= c) (hm:c <= maxLen) (hlt:val (zs ++ [x])+B64 ^ m * t < B64 * val ds):
  Calls Tryz.prog 292 #[.slice (some ⟨g,o,none⟩) (m+1) c,.slice A m d] w fun e w'=>
   ∃ (f:Nat),e = .returned (.int .u64 (f:Int))/\f=(val (zs ++ [x])+B64 ^ m * t) / val ds/\f < B64/\∃ ys:List Nat,ys.length=m/\Buf w' g (P ++ ys ++ (0 :: S))/\Only g w w'/\val ys=(val (zs ++ [x])+B64 ^ m * t) % val ds:=by
 unfold maxLen at hm
 have hc0:w.cell? ⟨g,o+m,none⟩=some (.int .u64 (t:Int)):=hw.cell (by
  rw [List.getElem?_append_right (by simp; omega)]; simp [hP,hxn,show o+m - (o+(n+1))=0 by omega])
 have hc1:w.cell? ⟨g,o+(m - 1),none⟩=some (.int .u64 (x:Int)):=hw.cell (by
  rw [List.getElem?_append_left (by simp; omega),List.getElem?_append_right (by omega),hP,show o+(m - 1) - o=n by omega,List.getElem?_append_right (by omega)]; simp [hxn])
 obtain ⟨ad,dt',rfl,_,hc2,hdl,HD⟩:=hb.get (k:=m - 1) (by omega)
 obtain rfl:dt=dt':=by have:=HD.out; rw [show m - 1=n by omega,hdt] at this; cases this; rfl
 have hDpos:0 < val ds:=by
  rcases Nat.eq_zero_or_pos (val ds) with h | h
  ·rw [h] at hlt; omega
  ·exact h
 have hQ:(val (zs ++ [x])+B64 ^ m * t) / val ds < B64:=by rw [Nat.div_lt_iff_lt_mul hDpos]; exact hlt
 have htl:t < B64:=hw.lt t (by simp)
 have hxl:x < B64:=hw.lt x (by simp)
 have hzl:val zs < B64 ^ n:=by
  have:=zcS zs (fun z hz=>hw.lt z (by simp [hz]))
  rwa [hxn] at this
 have hgu:t < dt -> (val (zs ++ [x])+B64 ^ m * t) / val ds <= (t * B64+x) / dt:=fun h=>by
  refine zkf (X:=B64 ^ n) (D:=val ds) (xl:=val (zs ++ [x])) ?_ ?_ hdt0 (by rw [hnm,Nat.pow_succ])
  ·rw [val_append,hxn,zbV,Nat.add_mul,Nat.one_mul,zw x]; omega
  ·have e := zaU hdt
   rw [<- hnm,<- hdn,List.take_length] at e
   rw [e,val_append,zbV,List.length_take,Nat.min_eq_left (by omega),zw dt]
   omega
 have HGU:=zc hgu; have HQ:=zc hQ; have HLT:=zc hlt; have HZL:=zc hzl; have HW:=zc hw; have HB:=zc hb; have HBN:=zc hB
 have HDN:=zc hdn; have HXN:=zc hxn; have HPL:=zc hP; have HDT:=zc hdt; have HNM:=zc hnm
 have hm1:1 <= m:=by omega
 have k1:IntKind.i64.wrap ((m:Int) - 1)=(m:Int) - 1:=IntWalk.i64_in _ (by omega)
 have k2:(0:Int) <= (m:Int) - 1:=by omega
 have k3:((m:Int) - 1).toNat=m - 1:=by omega
 have k4:(m:Int) - 1 < (m:Int)+1:=by omega
 have k5:(m:Int) < (m:Int)+1:=by omega
 have k6:(m:Int) - 1 < (m:Int):=by omega
 clear hgu hQ hlt hzl hw hb hB hdn hxn hP hdt HD hnm
 go_enter Tryz.func292,Tryz.ntmps292
 go_upto_region 3 with fail
 go_cut [20] (fun s20 wx=>Drew w wx/\s20 = .bool (decide (t < dt)))
 case first=>
  go_quiet (fail)
  go_wp2_with fail
  go_meet
  exact ⟨(Drew.refl w).more nq,rfl⟩
 case rest=>
  obtain ⟨hdw,rfl⟩:=hcut
  have HDW:=zc hdw
  have hd0:wc.cell? ⟨g,o+m,none⟩=some (.int .u64 (t:Int)):=by obtain ⟨_,rfl⟩:=hdw; exact hc0
  have hd1:wc.cell? ⟨g,o+(m - 1),none⟩=some (.int .u64 (x:Int)):=by obtain ⟨_,rfl⟩:=hdw; exact hc1
  have hd2:wc.cell? (ad.add (m - 1))=some (.int .u64 (dt:Int)):=by obtain ⟨_,rfl⟩:=hdw; exact hc2
  clear hdw hc0 hc1 hc2
  go_upto_if 20 with fail
  go_cut [6] (fun s6 wx=>Drew w wx/\∃ f:Nat,s6 = .int .u64 (f:Int)/\f < B64/\(val (zs ++ [x])+B64 ^ m * t) / val ds <= f)
  case first=>
   by_cases htd:t < dt
   ·have hdd : decide (t < dt) = true := by simp [htd]
    have hq:=Nat.lt_of_le_of_lt (Nat.zero_le _) htd
    have hfl:(t * B64+x) / dt < B64:=by
     rw [Nat.div_lt_iff_lt_mul hdt0]
     have:(t+1) * B64 <= dt * B64:=Nat.mul_le_mul_right _ htd
     rw [Nat.add_mul] at this
     rw [zw B64]
     omega
    have HFL:=zc hfl
    clear hfl hq
    go_wp2_with fail
    go_quiet ((go_at_call 271; exact Calls.quiet_of ((div64 t x dt htd hxl hdl _).mono fun _ _ h=>⟨h.1,h.2.ex⟩)))
    go_wp2_with fail
    go_meet
    exact ⟨HDW.out.more _,_,rfl,HFL.out,HGU.out htd⟩
   ·have hdd : decide (t < dt) = false := by simp [htd]
    go_wp2_with fail
    go_meet
    exact ⟨HDW.out,B64 - 1,rfl,by unfold B64; decide,by have:=HQ.out; omega⟩
  case rest=>
   obtain ⟨hd3,f,rfl,hfl,hge⟩:=hcut
   have HGE:=zc hge
   have hlx:(zs ++ [x]).length=m:=by simp [HXN.out,HNM.out]
   have hxlt:val (zs ++ [x]) < B64 ^ m:=by
    have:=zcS (zs ++ [x]) (fun z hz=>HW.out.lt z (by
     rcases List.mem_append.1 hz with h | h
     ·simp [h]
     ·rw [List.mem_singleton.1 h]; simp))
    rwa [hlx] at this
   have hdlt:val ds <= B64 ^ m:=by
    have:=zcS ds HB.out.lt
    rw [HDN.out] at this
    omega
   have hw2:=HW.out.drewD hd3
   have hb2:=hd3.words HB.out
   have hon:Only g w wc:=(Only.refl g w).drewD hd3
   have HLX:=zc hlx; have HXLT:=zc hxlt; have HDLT:=zc hdlt
   clear hge hlx hxlt hdlt
   go_wp2_with fail
   refine (zgr g o P (t :: S) (zs ++ [x]) ds m m f c d (some ad) _ HPL.out HLX.out HDN.out hw2 hb2 HBN.out rfl (by omega) (by unfold maxLen; omega) hfl).mono ?_
   rintro e w1 ⟨cy,rfl,hcy,ys,hyl,hb1,ho1,hv1⟩
   have hst:zoa w w1 g P S ds (val (zs ++ [x])) t m f cy:=⟨⟨ys,hyl,hb1,hv1⟩,HGE.out,hfl,hcy,hon.trans ho1⟩
   have ht0:w1.cell? ⟨g,o+m,none⟩=some (.int .u64 (t:Int)):=hb1.cell (by
    rw [List.getElem?_append_right (by simp [HPL.out,hyl])]; simp [HPL.out,hyl])
   clear hb1 hv1 hyl hw2 hb2 ho1 hon
   go_wp2_with fail
   go_loopw [6,7] (fun s6 s7 wr=>∃ f bw:Nat,s6 = .int .u64 (f:Int)/\s7 = .int .u64 (bw:Int)/\zoa w wr g P S ds (val (zs ++ [x])) t m f bw) (fun s6 _ _=>(intOf s6).toNat)
   case atStart=>exact ⟨f,cy,rfl,rfl,hst⟩
   case round=>
    obtain ⟨f,bw,rfl,rfl,hst⟩:=hrel
    obtain ⟨⟨ys,hyl,hb1,hv1⟩,hge,hfl,hbl,hon⟩:=hst
    have hyb:val ys < B64 ^ m:=by
     have:=zcS ys (fun z hz=>hb1.lt z (by simp [hz]))
     rwa [hyl] at this
    have HYL:=zc hyl; have HV1:=zc hv1; have HGE2:=zc hge
    clear hge hv1 hyl
    by_cases htb:t < bw
    ·have hmore := zk1 hDpos ⟨ys, hyb, HV1.out⟩ htb
     have HM:=zc hmore
     have hfpos:0 < f:=Nat.lt_of_le_of_lt (Nat.zero_le _) hmore
     clear hmore
     have hb2:=hon.words HB.out HBN.out
     go_wp2_with fail
     refine (zhq g o P (t :: S) ys ds m c m d (some ad) _ HPL.out HYL.out HDN.out hb1 hb2 HBN.out (zv _) (by omega) (by unfold maxLen; omega)).mono ?_
     rintro e w2 ⟨c2,rfl,hc2,zs2,hzl,hb3,ho3,hv3⟩
     have HZ2:=zc hzl; have HV3:=zc hv3
     clear hzl hv3
     have hcb:c2 <= bw:=by omega
     go_wp2_with fail
     go_roundw
     case rel=>
      refine ⟨f - 1,bw - c2,?_,?_,⟨zs2,HZ2.out,hb3,?_⟩,?_,by omega,by omega,hon.trans ho3⟩
      ·rw [show (f:Int) - 1=((f - 1:Nat):Int) by omega,wrapu (by omega)]
      ·rw [show (bw:Int) - (c2:Int)=((bw - c2:Nat):Int) by omega,wrapu (by omega)]
      ·have h1 := HV1.out
       have h2:=HV3.out
       obtain ⟨f',rfl⟩:∃ f',f=f'+1:=⟨f - 1,by omega⟩
       obtain ⟨b',rfl⟩:∃ b',bw=b'+c2:=⟨bw - c2,by omega⟩
       rw [Nat.add_sub_cancel,Nat.add_sub_cancel]
       rw [Nat.mul_add,Nat.mul_add,Nat.mul_one] at h1
       omega
      ·have:=HM.out; omega
     case measure=>
      simp only [intOf]
      rw [show (f:Int) - 1=((f - 1:Nat):Int) by omega,wrapu (by omega)]
      simp [intOf]
      omega
    ·obtain ⟨hf1, hy1⟩ := zk2 hDpos HDLT.out HGE2.out HV1.out htb
     have HF1:=zc hf1; have HY1:=zc hy1
     clear hf1 hy1
     have ht1:wr.cell? ⟨g,o+m,none⟩=some (.int .u64 (t:Int)):=hb1.cell (by
      rw [List.getElem?_append_right (by simp [HPL.out,HYL.out])]; simp [HPL.out,HYL.out])
     have ht2:=hb1.frozen (o+m)
     have hb4:Buf (wr.setCell ⟨g,o+m,none⟩ (.int .u64 0)) g (P ++ ys ++ (0 :: S)):=by
      have:=hb1.set_ (o+m) 0 zaE
      rw [List.set_append_right _ _ (by simp [HPL.out,HYL.out])] at this
      simpa [HPL.out,HYL.out] using this
     go_wp2_with fail
     go_ret
     exact ⟨f,rfl,HF1.out,hfl,ys,HYL.out,hb4,hon.set_ _ _,HY1.out⟩
structure LongSt (w0 w:World) (gr gq:Nat) (A:Option Addr) (ds:List Nat) (N la m k:Nat):Prop where
 ex:∃ rs qs:List Nat,rs.length=la+1/\qs.length+k+m=la+1/\Buf w gr rs/\Buf w gq (List.replicate k 0 ++ qs)/\N=val rs+val ds * (B64 ^ k * val qs)/\val rs < val ds * B64 ^ k
 words:WordsAt w A ds
 below:Below w0.heap.size w0 w
 newr:w0.heap.size <= gr
 newq:w0.heap.size <= gq
 ne_:gr ≠ gq
 far:∀ ad,A=some ad -> 0 < ds.length -> ad.block ≠ gr/\ad.block ≠ gq
theorem zkP {D X B vP seg q r vq N vr:Nat} (hr:vr=vP+X * seg) (hs:seg=D * q+r) (hN:N=vr+D * (X * B * vq)):N=vP+X * r+D * (X * (q+B * vq)):=by
 rw [hN,hr,hs,Nat.mul_add,Nat.mul_add X q,Nat.mul_add D,<- Nat.mul_assoc X D q,zw X D,<- Nat.mul_assoc X B vq,Nat.mul_assoc D X q]
 omega
section
variable {w0 w:World} {gr gq:Nat} {A:Option Addr} {ds:List Nat} {N la m j:Nat}
theorem LongSt.step (h:LongSt w0 w gr gq A ds N la m (j+1)) (hm:0 < m) (hd:val ds < B64 ^ m) (hd0:0 < val ds):
  ∃ (P S zs:List Nat) (x t:Nat),P.length=j/\zs.length=m - 1/\Buf w gr (P ++ (zs ++ [x]) ++ (t :: S))/\val (zs ++ [x])+B64 ^ m * t < B64 * val ds /\
   w.cell? ⟨gq,j,none⟩=some (.int .u64 0)/\w.frozen? ⟨gq,j,none⟩=false /\
   ∀ (w1:World) (f:Nat) (ys:List Nat),f=(val (zs ++ [x])+B64 ^ m * t) / val ds -> f < B64 -> ys.length=m -> Buf w1 gr (P ++ ys ++ (0 :: S)) -> Only gr w w1 -> val ys=(val (zs ++ [x])+B64 ^ m * t) % val ds ->
    w1.cell? ⟨gq,j,none⟩=some (.int .u64 0)/\w1.frozen? ⟨gq,j,none⟩=false /\
    ∀ w2,w2=w1.setCell ⟨gq,j,none⟩ (.int .u64 (f:Int)) -> LongSt w0 w2 gr gq A ds N la m j:=by
 obtain ⟨⟨rs,qs,hrl,hql,hbr,hbq,hN,hlt⟩,hwd,hbe,hnr,hnq,hne,hfar⟩:=h
 have e1:rs=rs.take j ++ rs.drop j:=(List.take_append_drop j rs).symm
 have hdl:(rs.drop j).length=la+1 - j:=by simp [hrl]
 have e2:rs.drop j=(rs.drop j).take m ++ (rs.drop j).drop m:=(List.take_append_drop m _).symm
 have hml:((rs.drop j).take m).length=m:=by rw [List.length_take,hdl]; omega
 have hsl:((rs.drop j).drop m).length=la+1 - j - m:=by rw [List.length_drop,hdl]
 obtain ⟨zs,x,hzx⟩:∃ zs x,(rs.drop j).take m=zs ++ [x]:=by
  have hne:(rs.drop j).take m ≠ []:=fun h=>by rw [h] at hml; simp at hml; omega
  exact ⟨_,_,(List.dropLast_concat_getLast hne).symm⟩
 obtain ⟨t,S,hts⟩:∃ t S,(rs.drop j).drop m=t :: S:=by
  rcases h:(rs.drop j).drop m with _ | ⟨t,S⟩
  ·rw [h] at hsl; simp at hsl; omega
  ·exact ⟨t,S,rfl⟩
 have hzl:zs.length=m - 1:=by have:=hml; rw [hzx] at this; simp at this; omega
 have hPl:(rs.take j).length=j:=by rw [List.length_take]; omega
 have hrs:rs=rs.take j ++ (zs ++ [x]) ++ (t :: S):=by rw [<- hzx,<- hts,List.append_assoc,<- e2,<- e1]
 generalize rs.take j=P at *
 have hv:val rs=val P+B64 ^ j * (val (zs ++ [x])+B64 ^ m * (t+B64 * val S)):=by
  rw [hrs,List.append_assoc,val_append,hPl,val_append,val]
  rw [show (zs ++ [x]).length=m by simp [hzl]; omega]
 have hS:val S=0:=by
  rcases Nat.eq_zero_or_pos (val S) with h0 | h0
  ·exact h0
  ·have h1 : val ds * B64 ^ (j + 1) <= B64 ^ m * B64 ^ (j + 1) := Nat.mul_le_mul_right _ (Nat.le_of_lt hd)
   have h2:B64 ^ j * (B64 ^ m * (B64 * 1)) <= B64 ^ j * (val (zs ++ [x])+B64 ^ m * (t+B64 * val S)):=by
    refine Nat.mul_le_mul_left _ (zo (Nat.mul_le_mul_left _ ?_) (Nat.le_add_left _ _))
    exact zo (Nat.mul_le_mul_left _ h0) (Nat.le_add_left _ _)
   rw [Nat.mul_one,zw (B64 ^ m) B64,<- Nat.mul_assoc,<- Nat.pow_succ,zw (B64 ^ (j+1))] at h2
   omega
 rw [hS,Nat.mul_zero,Nat.add_zero] at hv
 have hseg:val (zs ++ [x])+B64 ^ m * t < B64 * val ds:=by
  have h1:B64 ^ j * (val (zs ++ [x])+B64 ^ m * t) < B64 ^ j * (B64 * val ds):=by
   rw [hv,Nat.pow_succ,<- Nat.mul_assoc,zw (val ds),Nat.mul_assoc,zw (val ds)] at hlt
   omega
  exact Nat.lt_of_mul_lt_mul_left h1
 have hcq:(List.replicate (j+1) 0 ++ qs)[j]?=some 0:=by rw [List.getElem?_append_left (by simp)]; simp
 refine ⟨P,S,zs,x,t,hPl,hzl,by rw [<- hrs]; exact hbr,hseg,hbq.cell (x:=0) hcq,hbq.frozen _,?_⟩
 intro w1 f ys hf hfl hyl hb1 ho1 hv1
 have hbq1:Buf w1 gq (List.replicate (j+1) 0 ++ qs):=hbq.keep (ho1.block gq (Ne.symm hne))
 refine ⟨hbq1.cell (x:=0) hcq,hbq1.frozen _,?_⟩
 rintro w2 rfl
 have hdm:=Nat.div_add_mod (val (zs ++ [x])+B64 ^ m * t) (val ds)
 have hml2:=Nat.mod_lt (val (zs ++ [x])+B64 ^ m * t) hd0
 rw [<- hf,<- hv1] at hdm
 rw [<- hv1] at hml2
 have hPlt:val P < B64 ^ j:=by
  have:=zcS P (fun z hz=>hb1.lt z (by simp [hz]))
  rwa [hPl] at this
 have hvr:val (P ++ ys ++ (0 :: S))=val P+B64 ^ j * val ys:=by
  rw [List.append_assoc,val_append,hPl,val_append,val,hS,Nat.mul_zero,Nat.add_zero,Nat.mul_zero,Nat.add_zero]
 refine ⟨⟨P ++ ys ++ (0 :: S),f :: qs,?_,by simp; omega,?_,?_,?_,?_⟩,?_,?_,hnr,hnq,hne,hfar⟩
 ·have := congrArg List.length hrs
  simp at this
  simp [hPl,hyl]
  omega
 ·exact hb1.far (p:=⟨gq,j,none⟩) hne _
 ·have := hbq1.set_ j f hfl
  rw [List.replicate_succ',List.append_assoc,List.set_append_right _ _ (by simp)] at this
  simpa using this
 ·rw [hvr, val]
  exact zkP hv hdm.symm (by rw [hN,Nat.pow_succ])
 ·rw [hvr, zw (val ds)]
  have:B64 ^ j * (val ys+1) <= B64 ^ j * val ds:=Nat.mul_le_mul_left _ hml2
  rw [Nat.mul_add,Nat.mul_one] at this
  omega
 ·have h1 := ho1.words hwd (fun ad h1 h2 => (hfar ad h1 h2).1)
  have h2:Only gq w1 (w1.setCell ⟨gq,j,none⟩ (.int .u64 (f:Int))):=(Only.refl _ _).set_ _ _
  exact h2.words h1 (fun ad h1 h2=>(hfar ad h1 h2).2)
 ·exact (hbe.trans (ho1.below hnr)).setCell (p:=⟨gq,j,none⟩) hnq _
end
end Go.Proofs.YtombhkpniddceaaGreatDoor
