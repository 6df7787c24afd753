import Derived.Test.YtombhkpniddceaaGreatDoorM24
set_option maxHeartbeats 12800000
set_option maxRecDepth 100000
set_option synthInstance.maxSize 20000
set_option linter.all false
namespace Go.Proofs.YtombhkpniddceaaGreatDoor
open Go.RowKit
def dotQ (x:List Rat) (R:List (List Rat)) (j:Nat):Nat -> Rat
 | 0=>0
 | k+1=>dotQ x R j k+x.getD k 0 * (R.getD k []).getD j 0
theorem zeP:wl (0:Rat).num.natAbs <= 2/\wl (0:Rat).den <= 2:=by decide +kernel
theorem ziL {k:Nat}:Sz (0:Rat) (k+2):=⟨zo zeP.1 (by omega),zo zeP.2 (by omega)⟩
theorem zjh {x:List Rat} {R:List (List Rat)} {j:Nat} (hx:∀ q ∈ x,Sz q 600) (hR:∀ r ∈ R,∀ q ∈ r,Sz q 600):∀ k,Sz (dotQ x R j k) (k * 1202+2)
 | 0=>ziL
 | k+1=>by
  have h:=zjh (j:=j) hx hR k
  have h1:Sz (x.getD k 0) 600:=by
   rw [List.getD_eq_getElem?_getD]
   cases hk:x[k]? with
   | none=>exact ziL
   | some q=>exact hx q (zk hk)
  have h2:Sz ((R.getD k []).getD j 0) 600:=by
   rw [List.getD_eq_getElem?_getD]
   cases hk:(R.getD k [])[j]? with
   | none=>exact ziL
   | some q=>
    rw [List.getD_eq_getElem?_getD] at hk
    cases hr:R[k]? with
    | none=>rw [hr] at hk; cases hk
    | some r=>rw [hr] at hk; exact hR r (zk hr) q (zk hk)
  have h3:Sz (dotQ x R j k+x.getD k 0 * (R.getD k []).getD j 0) (k * 1202+2+(600+600)+1):=za
  exact ⟨zo h3.num (by omega),zo h3.den (by omega)⟩
theorem RAt.at_ {w:World} {v:Value} {qs:List Rat} (h:RAt w v qs):∃ (g:Nat) (us:List RV),v = .slice (some ⟨g,0,none⟩) qs.length qs.length/\Blk w g 100 (zau us)/\∀ (i:Nat) (q:Rat),qs[i]?=some q -> ∃ u:RV,(zau us)[i * 3]?=some (.bool u.n.b)/\(zau us)[i * 3+1]?=some (.slice u.n.m.A u.n.m.k u.n.m.c)/\(zau us)[i * 3+2]?=some (.slice u.d.A u.d.k u.d.c)/\RatIs w u.v q:=by
 obtain ⟨g,us,hv,hb,hl,hq⟩:=h
 refine ⟨g,us,hv,hb,fun i q hi=>?_⟩
 have hlt:i < us.length:=by rw [hl]; exact (zh.1 hi).1
 have hu:us[i]?=some us[i]:=zg hlt
 obtain ⟨h0,h1,h2⟩:=zcv hu
 exact ⟨us[i],by rw [zau,List.getElem?_toArray,h0],by rw [zau,List.getElem?_toArray,h1],by rw [zau,List.getElem?_toArray,h2],hq i _ q hu hi⟩
theorem RMAt.at_ {w:World} {v:Value} {qss:List (List Rat)} (h:RMAt w v qss):∃ (g:Nat) (us:List Value),v = .slice (some ⟨g,0,none⟩) qss.length qss.length/\Blk w g 153 us.toArray/\∀ (i:Nat) (qs:List Rat),qss[i]?=some qs -> ∃ u:Value,us.toArray[i]?=some u/\RAt w u qs:=by
 obtain ⟨g,us,hv,hb,hl,hq⟩:=h
 refine ⟨g,us,hv,hb,fun i q hi=>?_⟩
 have hlt:i < us.length:=by rw [hl]; exact (zh.1 hi).1
 have hu:us[i]?=some us[i]:=zg hlt
 exact ⟨us[i],by rw [List.getElem?_toArray,hu],hq i _ q hu hi⟩
theorem mulAt_c {w:World} {vl vr:Value} {L R:List (List Rat)} {x:List Rat} {gl gr i j m:Nat} (hbl:Blk w gl 151 #[vl]) (hbr:Blk w gr 151 #[vr]) (hl:RMAt w vl L) (hr:RMAt w vr R)
  (hx:L[i]?=some x) (hm:x.length=m) (hmR:R.length=m) (hm64:m <= 64) (hj:∀ r ∈ R,j < r.length) (hLn:L.length < 2 ^ 40) (hj64:j < 2 ^ 40)
  (hs:∀ q ∈ x,Sz q 600) (hsR:∀ r ∈ R,∀ q ∈ r,Sz q 600):
  Calls Tryz.prog 120 #[.int .i64 (i:Int),.int .i64 (j:Int),.pointer (some ⟨gl,0,none⟩),.pointer (some ⟨gr,0,none⟩)] w (RRet w (dotQ x R j m)):=by
 obtain ⟨hL,usL,rfl,hbL,hLat⟩:=hl.at_
 obtain ⟨hR,usR,rfl,hbR,hRat⟩:=hr.at_
 obtain ⟨vx,hvx,hxa⟩:=hLat i x hx
 obtain ⟨gx,ux,rfl,hbx,hxat⟩:=hxa.at_
 have hil:i < L.length:=(zh.1 hx).1
 have hil':(i:Int) < (L.length:Int):=by omega
 have HM64:=zc hm64; have HSZ:=zc (zjh (j:=j) hs hsR)
 have HROW:=zc (fun (k:Nat) (hk:k < m)=>show ∃ (q y:Rat) (u:RV) (gy n:Nat) (uy:List RV) (v:RV),x[k]?=some q/\(zau ux)[k * 3]?=some (.bool u.n.b)/\(zau ux)[k * 3+1]?=some (.slice u.n.m.A u.n.m.k u.n.m.c)/\(zau ux)[k * 3+2]?=some (.slice u.d.A u.d.k u.d.c)/\RatIs w u.v q /\
   usR.toArray[k]?=some (.slice (some ⟨gy,0,none⟩) n n)/\j < n/\Blk w gy 100 (zau uy)/\(zau uy)[j * 3]?=some (.bool v.n.b)/\(zau uy)[j * 3+1]?=some (.slice v.n.m.A v.n.m.k v.n.m.c)/\(zau uy)[j * 3+2]?=some (.slice v.d.A v.d.k v.d.c)/\RatIs w v.v y/\Sz q 600/\Sz y 600/\dotQ x R j (k+1)=dotQ x R j k+q * y from by
  obtain ⟨q,hq⟩:∃ q,x[k]?=some q:=⟨x[k]'(by omega),zg _⟩
  obtain ⟨r,hrk⟩:∃ r,R[k]?=some r:=⟨R[k]'(by omega),zg _⟩
  have hrm:=zk hrk
  have hjr:=hj r hrm
  obtain ⟨y,hy⟩:∃ y,r[j]?=some y:=⟨r[j],zg hjr⟩
  obtain ⟨u,a0,a1,a2,a3⟩:=hxat k q hq
  obtain ⟨vr,hvr,hra⟩:=hRat k r hrk
  obtain ⟨gy,uy,rfl,hby,hyat⟩:=hra.at_
  obtain ⟨v,c0,c1,c2,c3⟩:=hyat j y hy
  refine ⟨q,y,u,gy,r.length,uy,v,hq,a0,a1,a2,a3,hvr,hjr,hby,c0,c1,c2,c3,hs q (zk hq),hsR r hrm y (zk hy),?_⟩
  show dotQ x R j k+x.getD k 0 * (R.getD k []).getD j 0=_
  rw [List.getD_eq_getElem?_getD,List.getD_eq_getElem?_getD,List.getD_eq_getElem?_getD,hq,hrk]
  simp [hy])
 obtain ⟨nL,hnL⟩:∃ nL,L.length=nL:=⟨_,rfl⟩
 rw [hnL] at hbl hil' hLn
 rw [hm] at hvx
 rw [hmR] at hbr
 have H0:dotQ x R j 0=0:=rfl
 clear hl hr hx hm hmR hm64 hj hs hsR hLat hRat hxat hxa hil hnL
 generalize dotQ x R j=D at *
 go_enter Tryz.func120,Tryz.ntmps120
 go_wp2_with fail
 go_loopw [16] (fun s16 wr=>∃ (k:Nat) (s:RV),s16 = .int .i64 (k:Int)/\k <= m/\Blk wr (w.heap.size+1) 100 #[.bool s.n.b,.slice s.n.m.A s.n.m.k s.n.m.c,.slice s.d.A s.d.k s.d.c]/\Blk wr w.heap.size 100 #[.bool false,.slice none 0 0,.slice none 0 0]/\RatIs wr s.v (D k)/\Nxt w wr) (fun s16 _=>m - (intOf s16).toNat)
 case atStart=>exact ⟨0,zr,rfl,Nat.zero_le _,za,za,by rw [H0]; exact zbf,zaa⟩
 case round=>
  obtain ⟨k,s,rfl,hk,_,_,_,_⟩:=hrel
  by_cases hin:k < m
  ·have hlt : decide ((k : Int) < (m : Int)) = true := by simp; omega
   have hlt':(k:Int) < (m:Int):=by omega
   have hadd:IntKind.i64.wrap ((k:Int)+1)=((k+1:Nat):Int):=by have:=HM64.out; rw [zx]; omega
   obtain ⟨q,y,u,gy,n,uy,v,_,a0,a1,a2,a3,hvr,hjn,hby,c0,c1,c2,c3,dq,dy,hD⟩:=HROW.out k hin
   have hjn':(j:Int) < (n:Int):=by omega
   have ds:Sz (D k) (k * 1202+2):=HSZ.out k
   have HD:=zc hD; have HK:=zc hk; have HIN:=zc hin
   clear hD hk hin hjn
   generalize D k=d at *
   go_upto_region 5 with fail
   go_region_with ((first | (go_at_call 122; refine zf (zcW (q:=q) (r:=y) (by omega)) ?_; rintro e w1 ⟨s1,rfl,_,_⟩) | (go_at_call 121; refine zf (zfo (q:=d) (r:=q * y) (by have:=HM64.out; have:=HIN.out; omega)) ?_; rintro e w1 ⟨q1,rfl,_,_⟩)))
   all_goals go_wp2_with fail
   all_goals go_roundw
   all_goals first
    | exact ⟨k+1,_,rfl,HIN.out,za,za,by rw [HD.out]; infer_instance,zaa⟩
    | (simp [intOf]; have:=HIN.out; omega)
  ·have hlt : decide ((k : Int) < (m : Int)) = false := by simp; omega
   have hlt':¬ (k:Int) < (m:Int):=by omega
   obtain rfl:k=m:=by omega
   clear hk hin
   go_wp2_with fail
   simp [bodyPost,results,Tryz.results120,go_sem]
   exact ⟨s,rfl,za,zaa⟩
end Go.Proofs.YtombhkpniddceaaGreatDoor
