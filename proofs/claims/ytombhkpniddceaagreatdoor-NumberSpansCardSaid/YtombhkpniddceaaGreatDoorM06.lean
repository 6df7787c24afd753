import Derived.Test.YtombhkpniddceaaGreatDoorM05
set_option maxHeartbeats 1600000
set_option linter.all false
namespace Go.Proofs.YtombhkpniddceaaGreatDoor
open Go.RowKit
def flr (x y:Int):Int:=if y < 0 then (-x) / (-y) else x / y
theorem zeo {x y:Int} (h:0 < y):flr x y=x / y:=by unfold flr; rw [if_neg (by omega)]
theorem flr_of {x y q r:Int} (h:x=y * q+r) (hr:(0 <= r/\r < y) ∨ (y < r/\r <= 0)):flr x y=q:=by
 unfold flr
 rcases hr with ⟨h0,h1⟩ | ⟨h0,h1⟩
 ·rw [if_neg (by omega)]
  exact ((Int.ediv_emod_unique (a:=x) (b:=y) (r:=r) (q:=q) (by omega)).2 ⟨by rw [h]; omega,h0,h1⟩).1
 ·rw [if_pos (by omega)]
  refine ((Int.ediv_emod_unique (a := -x) (b := -y) (r := -r) (q:=q) (by omega)).2 ⟨?_,by omega,by omega⟩).1
  rw [h,Int.neg_mul]
  omega
theorem zmb {b1 b2:Bool} {a b:Nat} {x y:Int} (hb:b ≠ 0) (hx:sgn b1 a=x) (hy:sgn b2 b=y):
  ((b1 != b2)=false ∨ a % b=0 -> sgn (b1 != b2) (a / b)=flr x y/\sgn b1 (a % b)=x - y * flr x y) /\
  ((b1 != b2)=true -> a % b ≠ 0 -> sgn (b1 != b2) (a / b) - 1=flr x y/\sgn b1 (a % b)+y=x - y * flr x y):=by
 have hm:((a % b:Nat):Int)+(b:Int) * ((a / b:Nat):Int)=(a:Int):=by
  rw [<- Int.natCast_mul,<- Int.natCast_add,Nat.mod_add_div]
 have hl:((a % b:Nat):Int) < (b:Int):=by exact_mod_cast Nat.mod_lt a (Nat.pos_of_ne_zero hb)
 have h0:(0:Int) <= ((a % b:Nat):Int):=Int.natCast_nonneg _
 generalize a / b=Q at *
 generalize a % b=R at *
 have key:∀ q r:Int,x=y * q+r -> ((0 <= r/\r < y) ∨ (y < r/\r <= 0)) -> q=flr x y/\r=x - y * flr x y:=by
  intro q r h1 h2
  have:=flr_of h1 h2
  rw [this]
  exact ⟨rfl,by omega⟩
 constructor
 ·intro h
  apply key
  ·rw [<- hx, <- hy]
   cases b1 <;> cases b2 <;> simp [sgn] <;> (try simp only [Int.neg_mul,Int.mul_neg,Int.neg_neg]) <;> (generalize (b:Int) * (Q:Int)=P at *; omega)
  ·rw [<- hy]
   cases b1 <;> cases b2 <;> simp [sgn] at h ⊢ <;> omega
 ·intro h hR
  have hR':R ≠ 0:=hR
  apply key
  ·rw [<- hx, <- hy]
   cases b1 <;> cases b2 <;> simp [sgn,Int.mul_sub] at h ⊢ <;> (try simp only [Int.neg_mul,Int.mul_neg,Int.neg_neg]) <;> (generalize (b:Int) * (Q:Int)=P at *; omega)
  ·rw [<- hy]
   cases b1 <;> cases b2 <;> simp [sgn] at h ⊢ <;> omega
theorem zkX (a b:Nat):wl (a / b) <= wl a:=zar (Nat.div_le_self a b)
theorem zkW (a b:Nat):wl (a % b) <= wl a:=zar (Nat.mod_le a b)
theorem zaq (b:Bool) (n:Nat):(sgn b n).natAbs=n:=by cases b <;> simp [sgn]
theorem flr_wl {x y:Int} {a:Nat} (h:wl x.natAbs <= a):wl (flr x y).natAbs <= a+1:=by
 have key:∀ {x y:Int},0 <= y -> (x / y).natAbs <= x.natAbs:=by
  intro x y hy
  rcases Int.lt_or_eq_of_le hy with hp | rfl
  ·rcases Int.lt_or_le x 0 with hx | hx
   ·have h1:x <= x / y:=by
     rw [Int.le_ediv_iff_mul_le hp]
     have:=Int.mul_le_mul_of_nonpos_left (show x <= 0 by omega) (show (1:Int) <= y by omega)
     omega
    have h2:x / y < 0:=Int.ediv_neg_of_neg_of_pos hx hp
    omega
   ·have h1 : x / y <= x := Int.ediv_le_self y hx
    have h2:0 <= x / y:=Int.ediv_nonneg hx hy
    omega
  ·simp
 have:(flr x y).natAbs <= x.natAbs:=by
  unfold flr
  split
  ·have:=key (x := -x) (y := -y) (by omega); omega
  ·exact key (by omega)
 have:=zar this
 omega
instance {x y:Int} {a:Nat} [h:Wd x a]:Wd (flr x y) (a+1):=⟨flr_wl h.out⟩
section
variable {v1 v2:Value} {x y:Int} {a b:Nat} {w:World} [h1:IntIs w v1 x] [h2:IntIs w v2 y] [d1:Wd x a] [d2:Wd y b]
theorem zib (h:a+a+a+b+9 <= MaxW) (hy:y ≠ 0):Calls Tryz.prog 233 #[v1,v2] w (DRet w (flr x y) (x - y * flr x y)):=by
 obtain ⟨s1,rfl,HB1,k1⟩:=h1.form
 obtain ⟨s2,rfl,HB2,k2⟩:=h2.form
 have hs1:sgn s1.b x.natAbs=x:=by rw [HB1.out]; exact zcj x
 have hs2:sgn s2.b y.natAbs=y:=by rw [HB2.out]; exact zcj y
 have hy0:y.natAbs ≠ 0:=by omega
 have hd:=zmb hy0 hs1 hs2
 have e1:Wd (sgn (s1.b != s2.b) (x.natAbs / y.natAbs)) a:=⟨by rw [zaq]; exact zo (zkX _ _) d1.out⟩
 have e2:Wd (sgn s1.b (x.natAbs % y.natAbs)) a:=⟨by rw [zaq]; exact zo (zkW _ _) d1.out⟩
 exact zh7 (y:=y) (by omega) (ziO hy) hy0 rfl rfl hd.1 hd.2
theorem zfG (h:a+a+a+b+9 <= MaxW) (hy:y ≠ 0):Calls Tryz.prog 172 #[v1,v2] w (IRet w (flr x y)):=by
 obtain ⟨s1,rfl,_,_⟩:=h1.form
 obtain ⟨s2,rfl,_,_⟩:=h2.form
 go_enter Tryz.func172,Tryz.ntmps172
 go_wp2_with (first | (go_at_call 233; refine zf (zib h hy) ?_; rintro e w1 ⟨s1,s2,rfl,_,_,_⟩))
 simp [bodyPost,results,Tryz.results172,go_sem]
 exact ⟨s1,rfl,za,zaa⟩
end
section
variable {v1 v2:Value} {n m a b:Nat} {w:World} [h1:NatIs w v1 n] [h2:NatIs w v2 m] [d1:WdN n a] [d2:WdN m b]
theorem zgD {t:Nat} (h:a <= MaxW) (ht:t <= MaxW):Calls Tryz.prog 256 #[v1,.int .i64 (t:Int)] w (NRet w (n * 2 ^ t)):=
 (zeU v1 n t w h1 (by have:=d1.out; omega) ht).mono fun _ _ h => .of h
theorem zku (h:a <= 2 ^ 32):Calls Tryz.prog 231 #[v1] w fun e w'=>∃ r,zb5 n r/\NRet w r e w':=
 (zm3 v1 n w h1 (by have:=d1.out; omega)).mono fun _ _ ⟨v,r,he,hv,hr,hb⟩=>⟨r,hr,.of ⟨v,he,hv,hb⟩⟩
theorem zlC (h:a+b <= MaxW):Calls Tryz.prog 228 #[v1,v2] w (NRet w (n+m)):=
 (zi4 v1 v2 n m w h1 h2 (by have:=d1.out; omega) (by have:=d2.out; omega)).mono fun _ _ h => .of h
theorem zhQ (h:a <= MaxW) (hle:m <= n):Calls Tryz.prog 241 #[v1,v2] w (NRet w (n - m)):=
 (zi2 v1 v2 n m w h1 h2 (by have:=d1.out; omega) hle).mono fun _ _ h => .of h
theorem zcb {t:Int} (h:a+b <= MaxW) (ht:cmpN n m=t):Calls Tryz.prog 232 #[v1,v2] w (PRet w (.int .i64 t)):=by
 subst ht
 exact (za7 v1 v2 n m w h1 h2 (by have:=d1.out; omega) (by have:=d2.out; omega)).mono fun _ _ h=>⟨h.1,⟨h.2.below _⟩⟩
theorem zdP {t r:Nat} (h:a <= MaxW) (ht:0 < t) (hb:t < B64) (hr:n % t=r):Calls Tryz.prog 243 #[v1,.int .u64 (t:Int)] w
  fun e w'=>∃ s:NV,e = .returned (.tuple #[s.v,.int .u64 (r:Int)])/\NatIs w' s.v (n / t)/\Nxt w w':=by
 subst hr
 exact (zfw v1 n t w h1 (by have:=d1.out; omega) ht hb).mono fun _ _ ⟨v,he,hv,hb⟩=>by
  obtain ⟨s,rfl⟩:=hv.form
  exact ⟨s,he,hv,⟨hb⟩⟩
end
theorem zjK (x:Int) (n:Nat):sgn (decide (x < 0)) (x.natAbs * 2 ^ n)=x * 2 ^ n:=by
 have h:=zcj x
 generalize decide (x < 0)=b at *
 rw [<- h]
 cases b <;> simp [sgn,Int.neg_mul]
section
variable {v1 v2:Value} {x y:Int} {a b:Nat} {w:World} [h1:IntIs w v1 x] [h2:IntIs w v2 y] [d1:Wd x a] [d2:Wd y b]
theorem zde {n:Nat} (hl:a <= MaxW) (hn:n <= MaxW):Calls Tryz.prog 224 #[v1,.int .i64 (n:Int)] w (IRet w (x * 2 ^ n)):=by
 obtain ⟨s,rfl,HB,_⟩:=h1.form
 have HX:Hid (sgn s.b (x.natAbs * 2 ^ n)=x * 2 ^ n):=by show _=_; rw [HB.out]; exact zjK x n
 have HN:=zc hn
 clear hn
 go_enter Tryz.func224,Tryz.ntmps224
 go_wp2_with fail
 (refine Code.nameW ?_; intro W hW; go_region_held3 (fun w'=>ButO W [w.heap.size+1] w') (exact zab) ((first | (go_at_call 256; refine zf (zgD hl HN.out) ?_; rintro e w1 ⟨s1,rfl,_,_⟩) | (go_at_call 160; refine zf (zbq) ?_; rintro e w1 ⟨b1,rfl,_,_⟩))))
 all_goals go_wp2_with fail
 all_goals simp [bodyPost,results,Tryz.results224,go_sem]
 all_goals exact ⟨⟨b1,s1⟩,rfl,by rw [<- HX.out]; infer_instance,zaa⟩
theorem zkB (hx0:0 <= x) (hl:a <= 2 ^ 32):Calls Tryz.prog 166 #[v1] w fun e w'=>∃ r,zb5 x.natAbs r/\IRet w (r:Int) e w':=by
 obtain ⟨⟨b,m⟩,rfl,HB,_⟩:=h1.form
 obtain rfl:b=false:=by have:=HB.out; simp only at this; rw [this]; simp; omega
 clear hx0
 go_enter Tryz.func166,Tryz.ntmps166
 go_wp2_with ((first
  | (go_at_call 231; refine zf (zku hl) ?_; rintro e w1 ⟨r,hr,s1,rfl,_,_⟩); have HR:=zc hr; clear hr
  | (go_at_call 160; refine zf (zbq) ?_; rintro e w1 ⟨b1,rfl,_,_⟩)))
 simp [bodyPost,results,Tryz.results166,go_sem]
 exact ⟨r,HR.out,⟨b1,s1⟩,rfl,(za:IntIs _ _ (sgn false r)),zaa⟩
theorem zi9 (hx:x.natAbs < 2 ^ 63):Calls Tryz.prog 219 #[v1] w (PRet w (.tuple #[.int .i64 x,.bool true])):=by
 have hbl:bl x.natAbs <= 63:=bl_le hx
 have d3:Wd x 1:=⟨zaf (by unfold B64; omega)⟩
 obtain ⟨⟨b,m⟩,rfl,HB,k1⟩:=h1.form
 by_cases hz:x=0
 ·have hk : m.k = 0 := (NatIs.len_zero k1).2 (by simp [hz])
  obtain ⟨A,k,c⟩:=m
  simp only at hk
  subst hk hz
  clear hbl hx HB
  go_enter Tryz.func219,Tryz.ntmps219
  go_wp2_with fail
  go_ret2
  exact ⟨rfl,zaa⟩
 ·have hm0 : x.natAbs ≠ 0 := by omega
  have hmb:x.natAbs < B64:=by unfold B64; omega
  have hlim:limbs x.natAbs=[x.natAbs]:=by
   rw [zbb hm0,Nat.mod_eq_of_lt hmb,Nat.div_eq_of_lt hmb,zao]
  have HK:=zc k1
  obtain ⟨A,k,c⟩:=m
  obtain ⟨A',c',e,i1,i2,i3⟩:=k1
  injection e with e1 e2 e3
  subst e1 e2 e3
  rw [hlim] at i1 i3
  obtain ⟨ad,x',rfl,hadl,hcx,_,HX⟩:=i3.get (k:=0) (by simp)
  obtain rfl:x.natAbs=x':=by have:=HX.out; simpa using this
  rw [hlim,show [x.natAbs].length=1 from rfl] at h1 HK
  rw [hlim,show [x.natAbs].length=1 from rfl]
  obtain ⟨q,hq,hq63⟩:∃ q:Nat,bl x.natAbs=q/\q <= 63:=⟨_,rfl,hbl⟩
  have hqd:decide ((63:Int) < (q:Int))=false:=by simp; omega
  have hw1:IntKind.i64.wrap (x.natAbs:Int)=(x.natAbs:Int):=by
   generalize x.natAbs=m at *
   rw [zx]; omega
  have hw2:IntKind.i64.wrap (-(x.natAbs:Int)) = -(x.natAbs:Int):=by
   generalize x.natAbs=m at *
   rw [zx]; omega
  have hxs:(if b=true then -(x.natAbs:Int) else (x.natAbs:Int))=x:=by
   rw [show b=decide (x < 0) from HB.out]; simp; split <;> omega
  have hbit:=zaW (w:=w.alloc (Obj.cells #[Value.bool b,.slice (some ad) 1 c] 98)) (v1 := .agg #[.bool b,.slice (some ad) 1 c]) (x:=x) (a:=1) (by unfold MaxW; omega)
  rw [hq] at hbit
  have HXS:=zc hxs; have HBI:=zc hbit
  have hcx2:∀ w1,Nxt (w.alloc (Obj.cells #[Value.bool b,.slice (some ad) 1 c] 98)) w1 -> w1.cell? ad=some (.int .u64 (x.natAbs:Int)):=by
   intro w1 h
   rw [h.out.cell (by rw [World.size_alloc]; omega),World.cell?_alloc_lt _ _ _ hadl]; exact hcx
  have HC:=zc hcx2
  clear hxs i1 i2 i3 HX hlim hmb hm0 hx hbl hq HB HK hq63 hz hadl hcx hbit hcx2
  go_enter Tryz.func219,Tryz.ntmps219
  go_wp2_with (go_at_call 163; refine zf HBI.out ?_; rintro e w1 ⟨rfl,hn⟩; have hc:=HC.out w1 hn)
  all_goals go_ret2
  all_goals exact ⟨by have:=HXS.out; simp_all,zaa⟩
theorem len_zero {w:World} {s:NV} {n:Nat} (h:NatIs w s.v n):s.k=0 ↔ n=0:=NatIs.len_zero h
end
structure LInv (a b X Y x y u0 u1 u2 v0 v1 v2:Nat) (s P R:Int):Prop where
 hs:s=1 ∨ s = -1
 hx:(x:Int)=s * (u1 * X - v1 * Y)
 hy:(y:Int) = -s * (u2 * X - v2 * Y)
 hP:P=s * (u1 * a - v1 * b)
 hR:R = -s * (u2 * a - v2 * b)
 hyx:y <= x
 hv:1 <= v2
 hu:u2 <= v2
 hw:u1+u2 <= v1+v2
 hX:x * v2+y * v1=X
 hg:Int.gcd P R=Nat.gcd a b
 hb:P <= b ∨ (v1=0/\R=b)
 ho:v0 ≠ 0 -> ∃ O:Int,O = -s * (u0 * a - v0 * b)/\0 < P/\P < O/\O <= b/\Int.gcd O P=Nat.gcd a b
theorem zjZ {y v u ra rb D:Nat} (hv:v <= y) (hu:u <= v) (hra:ra < D) (hrb:rb < D) (h1:1 <= v):u * ra < y * D+v * rb/\v * rb < y * D+u * ra:=by
 have e1:u * ra <= v * ra:=Nat.mul_le_mul_right _ hu
 have e2:v * ra < v * D:=Nat.mul_lt_mul_of_pos_left hra (by omega)
 have e3:v * D <= y * D:=Nat.mul_le_mul_right _ hv
 have e4:v * rb < v * D:=Nat.mul_lt_mul_of_pos_left hrb (by omega)
 omega
theorem zcX {T R:Int} (hT:0 < T) (h:0 < T * R):0 < R:=by
 rcases Int.lt_or_le 0 R with h1 | h1
 ·exact h1
 ·have := Int.mul_le_mul_of_nonneg_left h1 (Int.le_of_lt hT)
  rw [Int.mul_zero] at this
  omega
structure Lead (a b X Y T D ra rb:Nat):Prop where
 ha:a * T=X * D+ra
 hb:b * T=Y * D+rb
 hra:ra < D
 hrb:rb < D
 hT:0 < T
 hXY:Y <= X
theorem znd (P R q:Int):Int.gcd R (P - q * R)=Int.gcd P R:=by
 rw [Int.gcd_comm P R]
 simp
theorem lin (s t u v a X Y b r1 r2 D:Int) (ha:a * t=X * D+r1) (hb:b * t=Y * D+r2):t * (s * (u * a - v * b))=s * (u * X - v * Y) * D+s * (u * r1 - v * r2):=by
 have e1:t * (s * (u * a - v * b))=s * (u * (a * t) - v * (b * t)):=by
  simp only [Int.mul_sub,Int.mul_comm,Int.mul_left_comm]
 rw [e1,ha,hb]
 simp only [Int.mul_sub,Int.mul_add,Int.mul_comm,Int.mul_left_comm]
 omega
theorem LInv.step {a b X Y x y u0 u1 u2 v0 v1 v2 T D ra rb:Nat} {s P R:Int} (h:LInv a b X Y x y u0 u1 u2 v0 v1 v2 s P R) (L:Lead a b X Y T D ra rb) (c1:v2 <= y) (c2:v1+v2 <= x - y):
  LInv a b X Y y (x % y) u1 u2 (u1+x / y * u2) v1 v2 (v1+x / y * v2) (-s) R (P - (x / y:Nat) * R):=by
 have hy0:0 < y:=Nat.lt_of_lt_of_le h.hv c1
 have hq:1 <= x / y:=(Nat.le_div_iff_mul_le hy0).2 (by have:=h.hyx; omega)
 have hqr:=Nat.div_add_mod x y
 have hr:=Nat.mod_lt x hy0
 generalize x / y=q at *
 generalize x % y=r at *
 have TR:(T:Int) * R=y * D + -s * (u2 * ra - v2 * rb):=by
  rw [h.hR,lin (-s) T u2 v2 a X Y b ra rb D (by exact_mod_cast L.ha) (by exact_mod_cast L.hb),<- h.hy]
 have TP:(T:Int) * P=x * D+s * (u1 * ra - v1 * rb):=by
  rw [h.hP,lin s T u1 v1 a X Y b ra rb D (by exact_mod_cast L.ha) (by exact_mod_cast L.hb),<- h.hx]
 have hT:(0:Int) < T:=by exact_mod_cast L.hT
 have l1:=zjZ c1 h.hu L.hra L.hrb h.hv
 have l2:=zjZ c2 h.hw L.hra L.hrb (by have:=h.hv; omega)
 have hxy:(x - y) * D+y * D=x * D:=by rw [<- Nat.add_mul]; congr 1; have:=h.hyx; omega
 rw [Nat.add_mul,Nat.add_mul] at l2
 have R0:0 < R:=by
  refine zcX hT ?_
  rw [TR]
  have e1:((u2 * ra:Nat):Int)=u2 * ra:=by simp
  have e2:((v2 * rb:Nat):Int)=v2 * rb:=by simp
  have e3:((y * D:Nat):Int)=y * D:=by simp
  rw [<- e1,<- e2,<- e3]
  rcases h.hs with rfl | rfl <;> omega
 have RP:R < P:=by
  have:0 < P - R:=by
   refine zcX hT ?_
   rw [Int.mul_sub,TR,TP]
   have e1:((u2 * ra:Nat):Int)=u2 * ra:=by simp
   have e2:((v2 * rb:Nat):Int)=v2 * rb:=by simp
   have e3:((y * D:Nat):Int)=y * D:=by simp
   have e4:((u1 * ra:Nat):Int)=u1 * ra:=by simp
   have e5:((v1 * rb:Nat):Int)=v1 * rb:=by simp
   have e6:((x * D:Nat):Int)=x * D:=by simp
   rw [<- e1,<- e2,<- e3,<- e4,<- e5,<- e6]
   rcases h.hs with rfl | rfl <;> omega
  omega
 have Rb:R <= b:=by
  rcases h.hb with h1 | ⟨_,h1⟩ <;> omega
 refine ⟨?_,?_,?_,?_,?_,Nat.le_of_lt hr,?_,?_,?_,?_,?_,Or.inl Rb,?_⟩
 ·rcases h.hs with rfl | rfl
  ·exact Or.inr rfl
  ·exact Or.inl rfl
 ·rw [h.hy]
 ·have e:(r:Int)=x - q * y:=by
   have:((y * q+r:Nat):Int)=x:=by rw [hqr]
   rw [<- this]; push_cast; rw [Int.mul_comm]; omega
  rw [e,h.hx,h.hy]
  push_cast
  grind
 ·rw [h.hR]
 ·rw [h.hP, h.hR]
  push_cast
  grind
 ·have := Nat.mul_le_mul_right v2 hq
  have:=h.hv
  omega
 ·have e1 := Nat.mul_le_mul_left (q - 1) h.hu
  have e2:q * u2=(q - 1) * u2+u2:=by rw [<- Nat.succ_mul]; congr 1; omega
  have e3:q * v2=(q - 1) * v2+v2:=by rw [<- Nat.succ_mul]; congr 1; omega
  have:=h.hw
  omega
 ·have e1 := Nat.mul_le_mul_left (q - 1) h.hu
  have e2:q * u2=(q - 1) * u2+u2:=by rw [<- Nat.succ_mul]; congr 1; omega
  have e3:q * v2=(q - 1) * v2+v2:=by rw [<- Nat.succ_mul]; congr 1; omega
  have:=h.hw; have:=h.hu
  omega
 ·rw [<- h.hX, <- hqr, Nat.mul_add, Nat.add_mul, Nat.mul_assoc]
  omega
 ·rw [znd]; exact h.hg
 ·intro hv1
  refine ⟨P,by rw [h.hP]; simp,R0,RP,?_,h.hg⟩
  rcases h.hb with h1 | ⟨h1,_⟩
  ·omega
  ·exact absurd h1 hv1
theorem LInv.start {a b X Y:Nat} (h:Y <= X):LInv a b X Y X Y 0 1 0 0 0 1 1 a b:=by
 refine ⟨Or.inl rfl,by simp,by simp,by simp,by simp,h,zv _,by omega,by omega,by simp,by simp,Or.inr ⟨rfl,rfl⟩,fun h=>absurd rfl h⟩
theorem LInv.small {a b X Y x y u0 u1 u2 v0 v1 v2:Nat} {s P R:Int} (h:LInv a b X Y x y u0 u1 u2 v0 v1 v2 s P R) (hx:0 < x):v2 <= X/\u2 <= X:=by
 have h1:=h.hX
 have h2:1 * v2 <= x * v2:=Nat.mul_le_mul_right _ hx
 have:=h.hu
 omega
theorem LInv.small2 {a b X Y x y u0 u1 u2 v0 v1 v2:Nat} {s P R:Int} (h:LInv a b X Y x y u0 u1 u2 v0 v1 v2 s P R) (hy:0 < y):v1+v2 <= X:=by
 have h1:=h.hX
 have h2:1 * v2 <= x * v2:=Nat.mul_le_mul_right _ (by have:=h.hyx; omega)
 have h3:1 * v1 <= y * v1:=Nat.mul_le_mul_right _ hy
 omega
theorem LInv.made {a b X Y x y u0 u1 u2 v0 v1 v2:Nat} {s P R:Int} (h:LInv a b X Y x y u0 u1 u2 v0 v1 v2 s P R) (h0:v0 ≠ 0):
  ∃ O Q:Nat,((u0 * a:Nat) - (v0 * b:Nat):Int).natAbs=O/\((u1 * a:Nat) - (v1 * b:Nat):Int).natAbs=Q/\0 < Q/\Q < O/\O <= b/\Nat.gcd O Q=Nat.gcd a b:=by
 obtain ⟨O,e1,h1,h2,h3,h4⟩:=h.ho h0
 refine ⟨O.natAbs,P.natAbs,?_,?_,by omega,by omega,by omega,h4⟩
 ·rw [e1]; push_cast; rcases h.hs with rfl | rfl <;> simp
 ·rw [h.hP]; push_cast; rcases h.hs with rfl | rfl <;> simp
theorem zlN {a i:Nat} (h:i < wl a):(limbs a)[i]?=some (a / B64 ^ i % B64):=by
 induction i generalizing a with
 | zero=>
  have h0:a ≠ 0:=by rintro rfl; rw [zbE] at h; omega
  rw [zbb h0]; simp
 | succ i ih=>
  have h0:a ≠ 0:=by rintro rfl; rw [zbE] at h; omega
  have h1:i < wl (a / B64):=by unfold wl at h ⊢; rw [zbb h0,List.length_cons] at h; omega
  rw [zbb h0,List.getElem?_cons_succ,ih h1,Nat.div_div_eq_div_mul,Nat.pow_succ,zw B64]
theorem div_top {a i:Nat} (h:wl a <= i):a / B64 ^ i=0:=Nat.div_eq_of_lt (Nat.lt_of_lt_of_le (zaz a) (zaV h))
theorem zhL (x y:Nat) (hx:x < B64) (hy:y < B64):bits .or .u64 (x:Int) (y:Int)=bits .or .u64 (y:Int) (x:Int):=by
 rw [bits_or_u64_nat x y hx hy,bits_or_u64_nat y x hy hx,Nat.or_comm]
theorem or_lead {hi lo s:Nat} (hl:lo < B64) (hs:s <= 64) (hh:hi * 2 ^ s < B64):bits .or .u64 (IntKind.u64.wrap ((hi:Int) * 2 ^ s)) ((lo:Int) / 2 ^ (64 - s))=((hi * 2 ^ s+lo / 2 ^ (64 - s):Nat):Int):=by
 have h1:=zlr (y:=lo / 2 ^ (64 - s)) (x:=hi) (s:=s) (by have:=zec (s:=s) hl hs; exact this) hs (Nat.lt_of_le_of_lt (Nat.div_le_self _ _) hl)
 have e:shlW hi s=hi * 2 ^ s:=Nat.mod_eq_of_lt hh
 rw [zb9,zda,show shrW lo (64 - s)=lo / 2 ^ (64 - s) from rfl]
 rw [zb9] at h1
 rw [zhL _ _ (zed _ _) (Nat.lt_of_le_of_lt (Nat.div_le_self _ _) hl),h1,e,Nat.add_comm]
theorem zlP (a m s:Nat) (hs:s <= 64):a * 2 ^ s / B64 ^ (m+1)=a / B64 ^ (m+1) * 2 ^ s+a / B64 ^ m % B64 / 2 ^ (64 - s):=by
 have hD:0 < B64 ^ m:=Nat.pow_pos zaE
 have e1:=Nat.div_add_mod a (B64 ^ m)
 have e2:=Nat.div_add_mod (a / B64 ^ m) B64
 have e3:a / B64 ^ m / B64=a / B64 ^ (m+1):=by rw [Nat.div_div_eq_div_mul,Nat.pow_succ]
 have hp:=Nat.mod_lt a hD
 have hl:=Nat.mod_lt (a / B64 ^ m) zaE
 have hBB:=zaE
 have hB:B64=2 ^ s * 2 ^ (64 - s):=by rw [<- Nat.pow_add,show s+(64 - s)=64 by omega]; rfl
 rw [e3] at e2
 generalize a % B64 ^ m=p at *
 generalize a / B64 ^ m % B64=lo at *
 generalize a / B64 ^ (m+1)=hi at *
 generalize a / B64 ^ m=c at *
 have e4:=Nat.div_add_mod lo (2 ^ (64 - s))
 have hr:=Nat.mod_lt lo (Nat.two_pow_pos (64 - s))
 generalize lo / 2 ^ (64 - s)=h at *
 generalize lo % 2 ^ (64 - s)=r at *
 have hs2:0 < 2 ^ s:=Nat.two_pow_pos s
 rw [Nat.pow_succ]
 generalize B64 ^ m=D at *
 rw [hB]
 rw [hB] at e2
 generalize 2 ^ s=S at *
 generalize 2 ^ (64 - s)=T at *
 subst e4 e2 e1
 have key:(D * (S * T * hi+(T * h+r))+p) * S=D * (S * T) * (hi * S+h)+(D * r+p) * S:=by grind
 rw [key,Nat.mul_add_div (by rw [hB] at hBB; exact Nat.mul_pos hD hBB)]
 have hlt:(D * r+p) * S < D * (S * T):=by
  have h1:D * r+p < D * T:=by
   have:D * (r+1) <= D * T:=Nat.mul_le_mul_left _ hr
   rw [Nat.mul_add] at this; omega
  have:=Nat.mul_lt_mul_of_pos_right h1 hs2
  rw [show D * (S * T)=D * T * S by grind]; exact this
 rw [Nat.div_eq_of_lt hlt,Nat.add_zero]
theorem zlO {v:Value} {a n s:Nat} {w:World} [h:NatIs w v a] (hn2:2 <= n) (hm:n <= MaxW) (hs:s <= 63) (hlt:a * 2 ^ s < B64 ^ n):
  Calls Tryz.prog 291 #[v,.int .i64 (n:Int),.int .i64 (s:Int)] w (PRet w (.int .u64 ((a * 2 ^ s / B64 ^ (n - 1):Nat):Int))):=by
 have hk:wl a <= n:=zaf (Nat.lt_of_le_of_lt (Nat.le_mul_of_pos_right _ (Nat.two_pow_pos s)) hlt)
 have hhi:a / B64 ^ (n - 1) * 2 ^ s < B64:=by
  obtain ⟨m,rfl⟩:∃ m,n=m+2:=⟨n - 2,by omega⟩
  have h1:a / B64 ^ (m+1) * 2 ^ s <= a * 2 ^ s / B64 ^ (m+1):=by rw [zlP a m s (by omega)]; exact Nat.le_add_right _ _
  have h2:a * 2 ^ s / B64 ^ (m+1) < B64:=by rw [Nat.div_lt_iff_lt_mul (Nat.pow_pos zaE),show B64 * B64 ^ (m+1)=B64 ^ (m+2) by rw [Nat.pow_succ B64 (m+1),zw]]; exact hlt
  show a / B64 ^ (m+1) * 2 ^ s < B64
  omega
 have hlo:a / B64 ^ (n - 2) % B64 < B64:=Nat.mod_lt _ zaE
 have hor:=or_lead (s:=s) hlo (by omega) hhi
 have he:a * 2 ^ s / B64 ^ (n - 1)=a / B64 ^ (n - 1) * 2 ^ s+a / B64 ^ (n - 2) % B64 / 2 ^ (64 - s):=by
  obtain ⟨m,rfl⟩:∃ m,n=m+2:=⟨n - 2,by omega⟩
  exact zlP a m s (by omega)
 obtain ⟨A,c,rfl,h1,h2,h3⟩:=h
 rw [ze5] at h1
 rw [ze5]
 have g1:∀ i,i < wl a -> ∃ ad,A=some ad/\w.cell? (ad.add i)=some (.int .u64 ((a / B64 ^ i % B64:Nat):Int)):=fun i hi=>by
  obtain ⟨ad,e,_,hc⟩:=h3.at_ i _ (zlN hi)
  exact ⟨ad,e,hc⟩
 have g0:∀ i,wl a <= i -> a / B64 ^ i=0:=fun i hi=>div_top hi
 obtain ⟨t,ht⟩:∃ t:Nat,a / B64 ^ (n - 1) * 2 ^ s+a / B64 ^ (n - 2) % B64 / 2 ^ (64 - s)=t:=⟨_,rfl⟩
 rw [he,ht]
 rw [ht] at hor
 have HO:=zc hor
 clear h3 hlt he ht hor
 unfold MaxW at hm
 unfold maxLen at h2
 generalize wl a=k at *
 have hw3:IntKind.i64.wrap (64 - (s:Int))=((64 - s:Nat):Int):=by rw [zx]; omega
 have hs4:(64 - s:Nat) <= 64:=by omega
 have hs0:decide ((s:Int) < 0)=false:=by simp
 have hs5:decide (((64 - s:Nat):Int) < 0)=false:=by simp
 rcases Nat.lt_or_ge (n - 1) k with c1 | c1
 ·obtain ⟨ad, rfl, hc1⟩ := g1 (n - 1) c1
  obtain ⟨_,e,hc2⟩:=g1 (n - 2) (by omega)
  cases e
  have e1:a / B64 ^ (n - 1) % B64=a / B64 ^ (n - 1):=by
   refine Nat.mod_eq_of_lt (Nat.lt_of_le_of_lt ?_ hhi)
   exact Nat.le_mul_of_pos_right _ (Nat.two_pow_pos s)
  rw [e1] at hc1
  clear g1 g0 e1
  generalize a / B64 ^ (n - 1)=hi at *
  generalize a / B64 ^ (n - 2) % B64=lo at *
  have hd1:decide ((n:Int) - 1 < (k:Int))=true:=by simp; omega
  have hd2:decide ((n:Int) - 2 < (k:Int))=true:=by simp; omega
  go_enter Tryz.func291,Tryz.ntmps291
  go_wp2_with fail
  go_quiet (fail)
  rw [HO.out]
  go_wp2_with fail
  go_ret
  exact ⟨rfl,zaa⟩
 ·have hd1 : decide ((n : Int) - 1 < (k : Int)) = false := by simp; omega
  rw [g0 (n - 1) c1,show IntKind.u64.wrap (((0:Nat):Int) * 2 ^ s)=0 by rw [IntKind.wrap_u64]; simp] at HO
  rcases Nat.lt_or_ge (n - 2) k with c2 | c2
  ·obtain ⟨ad, rfl, hc2⟩ := g1 (n - 2) c2
   have hd2:decide ((n:Int) - 2 < (k:Int))=true:=by simp; omega
   clear g1 g0 hhi
   generalize a / B64 ^ (n - 2) % B64=lo at *
   go_enter Tryz.func291,Tryz.ntmps291
   go_wp2_with fail
   go_quiet (fail)
   rw [HO.out]
   go_wp2_with fail
   go_ret
   exact ⟨rfl,zaa⟩
  ·have hd2 : decide ((n : Int) - 2 < (k : Int)) = false := by simp; omega
   rw [g0 (n - 2) c2,show ((0 % B64:Nat):Int) / 2 ^ (64 - s)=0 by simp] at HO
   clear g1 g0 hhi
   go_enter Tryz.func291,Tryz.ntmps291
   go_wp2_with fail
   go_quiet (fail)
   rw [HO.out]
   go_wp2_with fail
   go_ret
   exact ⟨rfl,zaa⟩
theorem zlF {v:Value} {a k u g:Nat} {w:World} [h:NatIs w v a] [d:WdN a k] [hb:Blk w g 220 #[.int .u64 (u:Int)]] (hk:k+1 <= MaxW) (hu:u < B64):
  Calls Tryz.prog 227 #[v,.slice (some ⟨g,0,none⟩) 1 1] w (NRet w (u * a)):=by
 obtain ⟨A,c,rfl,h1,h2,h3⟩:=h
 have:=zhU A (some ⟨g,0,none⟩) c 1 (limbs a) [u] w h3 (Buf.one (Buf.ofBlk hu)) (by have:=d.out; unfold wl at this; omega) (by unfold MaxW; simp)
 rw [zan,zbV,zw] at this
 exact this.mono fun _ _ h => .of h
instance {u a k:Nat} [h:WdN a k]:WdN (u * a) (wl u+k):=⟨zo (zgy u a) (Nat.add_le_add_left h.out _)⟩
theorem ziy {v1 v2:Value} {a b k l x y:Nat} {w:World} [h1:NatIs w v1 a] [h2:NatIs w v2 b] [d1:WdN a k] [d2:WdN b l] (hk:k+l+2 <= MaxW) (hx:x < B64) (hy:y < B64):
  Calls Tryz.prog 263 #[v1,v2,.int .u64 (x:Int),.int .u64 (y:Int)] w (NRet w (((x * a:Nat) - (y * b:Nat):Int).natAbs)):=by
 have hwx:wl x <= 1:=zaf (by rw [Nat.pow_one]; exact hx)
 have hwy:wl y <= 1:=zaf (by rw [Nat.pow_one]; exact hy)
 by_cases hlt:x * a < y * b
 ·have hc := zc (zb7 hlt)
  have he:((x * a:Nat) - (y * b:Nat):Int).natAbs=y * b - x * a:=by omega
  have hle:=zc (Nat.le_of_lt hlt)
  rw [he]
  clear hlt he
  go_enter Tryz.func263,Tryz.ntmps263
  go_wp2_with ((first
   | (go_at_call 227; refine zf (zlF (by omega) (by assumption)) ?_; rintro e w1 ⟨s1,rfl,_,_⟩)
   | (go_at_call 232; refine zf (zcb (by omega) hc.out) ?_; rintro e w1 ⟨rfl,_⟩)
   | (go_at_call 241; refine zf (zhQ (by omega) hle.out) ?_; rintro e w1 ⟨s2,rfl,_,_⟩)))
  go_ret
  exact ⟨s2,rfl,za,zaa⟩
 ·obtain ⟨t,ht,ht0⟩:∃ t:Nat,cmpN (x * a) (y * b)=t/\True:=by
   rcases Nat.lt_or_ge (y * b) (x * a) with h | h
   ·exact ⟨1,by rw [zbR h]; rfl,trivial⟩
   ·exact ⟨0,by rw [show x * a=y * b by omega,zbS]; rfl,trivial⟩
  have hc:=zc ht
  have he:((x * a:Nat) - (y * b:Nat):Int).natAbs=x * a - y * b:=by omega
  have hle:=zc (show y * b <= x * a by omega)
  rw [he]
  clear hlt he ht ht0
  go_enter Tryz.func263,Tryz.ntmps263
  go_wp2_with ((first
   | (go_at_call 227; refine zf (zlF (by omega) (by assumption)) ?_; rintro e w1 ⟨s1,rfl,_,_⟩)
   | (go_at_call 232; refine zf (zcb (by omega) hc.out) ?_; rintro e w1 ⟨rfl,_⟩)
   | (go_at_call 241; refine zf (zhQ (by omega) hle.out) ?_; rintro e w1 ⟨s2,rfl,_,_⟩)))
  go_ret
  exact ⟨s2,rfl,za,zaa⟩
end Go.Proofs.YtombhkpniddceaaGreatDoor
