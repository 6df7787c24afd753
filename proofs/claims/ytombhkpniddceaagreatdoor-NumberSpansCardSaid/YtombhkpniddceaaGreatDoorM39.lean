import Derived.Test.YtombhkpniddceaaGreatDoorM38
import Derived.Laws.FloatArith
set_option maxHeartbeats 3200000
set_option maxRecDepth 100000
set_option linter.all false
namespace Go.Proofs.YtombhkpniddceaaGreatDoor
open Go.RowKit
section
open Go.Sort Go.Lib
theorem zcF (b:Nat) (w:World):(callFunc 281 #[.float .f64 b]).run Tryz.prog w = .ok (.value (.int .u64 (b:Int))) w:=by
 rw [run_callFunc_extern Tryz.func281 (by kernel_rfl) (by kernel_rfl) (by kernel_rfl) (e:=Extern.MathFloatBits.float64bits) (by kernel_rfl)]
 rfl
theorem zbi (b:Nat) (w:World):(callFunc 284 #[.int .u64 (b:Int)]).run Tryz.prog w = .ok (.value (.float .f64 b)) w:=by
 rw [run_callFunc_extern Tryz.func284 (by kernel_rfl) (by kernel_rfl) (by kernel_rfl) (e:=Extern.MathFloatBits.float64frombits) (by kernel_rfl)]
 rfl
section
variable {w:World}
theorem abs_1:Calls Tryz.prog 253 #[(.float .f64 4712266410284285952)] w (PRet w (.float .f64 4712266410284285952)):=by
 have f1:∀ w:World,Sem.run Tryz.prog (callFunc 281 #[(.float .f64 4712266410284285952)]) w = .ok (.value (.int .u64 4712266410284285952)) w:=fun w=>zcF 4712266410284285952 w
 have f2:bits BinOp.andNot .u64 4712266410284285952 9223372036854775808=4712266410284285952:=by decide +kernel
 have f3:∀ w:World,Sem.run Tryz.prog (callFunc 284 #[(.int .u64 4712266410284285952)]) w = .ok (.value (.float .f64 4712266410284285952)) w:=fun w=>zbi 4712266410284285952 w
 go_enter Tryz.func253,Tryz.ntmps253
 go_wp2_with fail
 go_ret
 exact ⟨rfl,zaa⟩
theorem inf_1:Calls Tryz.prog 222 #[(.float .f64 4712266410284285952),.int .i64 0] w (PRet w (.bool false)):=by
 have f1:∀ w:World,Sem.run Tryz.prog (binOp .gtr 229 (.float .f64 4712266410284285952) (.float .f64 9218868437227405311)) w = .ok (.bool false) w:=fun w=>by kernel_rfl
 go_enter Tryz.func222,Tryz.ntmps222
 go_wp2_with fail
 refine zf (abs_1) ?_
 rintro e w1 ⟨rfl,_⟩
 go_wp2_with fail
 go_ret
 exact ⟨rfl,zaa⟩
theorem nan_1:Calls Tryz.prog 221 #[(.float .f64 4712266410284285952)] w (PRet w (.bool false)):=by
 have f1:∀ w:World,Sem.run Tryz.prog (binOp .neq 229 (.float .f64 4712266410284285952) (.float .f64 4712266410284285952)) w = .ok (.bool false) w:=fun w=>by kernel_rfl
 go_enter Tryz.func221,Tryz.ntmps221
 go_wp2_with fail
 go_ret
 exact ⟨rfl,zaa⟩
theorem zi1:Calls Tryz.prog 280 #[(.float .f64 4712266410284285952)] w (PRet w (.tuple #[(.float .f64 4712266410284285952),.int .i64 0])):=by
 have f1:∀ w:World,Sem.run Tryz.prog (binOp .lss 229 (.float .f64 4712266410284285952) (.float .f64 4503599627370496)) w = .ok (.bool false) w:=fun w=>by kernel_rfl
 go_enter Tryz.func280,Tryz.ntmps280
 go_wp2_with fail
 refine zf (abs_1) ?_
 rintro e w1 ⟨rfl,_⟩
 go_wp2_with fail
 go_ret2
 exact ⟨rfl,zaa⟩
theorem abs_2:Calls Tryz.prog 253 #[(.float .f64 4710765210229538816)] w (PRet w (.float .f64 4710765210229538816)):=by
 have f1:∀ w:World,Sem.run Tryz.prog (callFunc 281 #[(.float .f64 4710765210229538816)]) w = .ok (.value (.int .u64 4710765210229538816)) w:=fun w=>zcF 4710765210229538816 w
 have f2:bits BinOp.andNot .u64 4710765210229538816 9223372036854775808=4710765210229538816:=by decide +kernel
 have f3:∀ w:World,Sem.run Tryz.prog (callFunc 284 #[(.int .u64 4710765210229538816)]) w = .ok (.value (.float .f64 4710765210229538816)) w:=fun w=>zbi 4710765210229538816 w
 go_enter Tryz.func253,Tryz.ntmps253
 go_wp2_with fail
 go_ret
 exact ⟨rfl,zaa⟩
theorem inf_2:Calls Tryz.prog 222 #[(.float .f64 4710765210229538816),.int .i64 0] w (PRet w (.bool false)):=by
 have f1:∀ w:World,Sem.run Tryz.prog (binOp .gtr 229 (.float .f64 4710765210229538816) (.float .f64 9218868437227405311)) w = .ok (.bool false) w:=fun w=>by kernel_rfl
 go_enter Tryz.func222,Tryz.ntmps222
 go_wp2_with fail
 refine zf (abs_2) ?_
 rintro e w1 ⟨rfl,_⟩
 go_wp2_with fail
 go_ret
 exact ⟨rfl,zaa⟩
theorem nan_2:Calls Tryz.prog 221 #[(.float .f64 4710765210229538816)] w (PRet w (.bool false)):=by
 have f1:∀ w:World,Sem.run Tryz.prog (binOp .neq 229 (.float .f64 4710765210229538816) (.float .f64 4710765210229538816)) w = .ok (.bool false) w:=fun w=>by kernel_rfl
 go_enter Tryz.func221,Tryz.ntmps221
 go_wp2_with fail
 go_ret
 exact ⟨rfl,zaa⟩
theorem zi0:Calls Tryz.prog 280 #[(.float .f64 4710765210229538816)] w (PRet w (.tuple #[(.float .f64 4710765210229538816),.int .i64 0])):=by
 have f1:∀ w:World,Sem.run Tryz.prog (binOp .lss 229 (.float .f64 4710765210229538816) (.float .f64 4503599627370496)) w = .ok (.bool false) w:=fun w=>by kernel_rfl
 go_enter Tryz.func280,Tryz.ntmps280
 go_wp2_with fail
 refine zf (abs_2) ?_
 rintro e w1 ⟨rfl,_⟩
 go_wp2_with fail
 go_ret2
 exact ⟨rfl,zaa⟩
theorem abs_3:Calls Tryz.prog 253 #[(.float .f64 4599676419600023552)] w (PRet w (.float .f64 4599676419600023552)):=by
 have f1:∀ w:World,Sem.run Tryz.prog (callFunc 281 #[(.float .f64 4599676419600023552)]) w = .ok (.value (.int .u64 4599676419600023552)) w:=fun w=>zcF 4599676419600023552 w
 have f2:bits BinOp.andNot .u64 4599676419600023552 9223372036854775808=4599676419600023552:=by decide +kernel
 have f3:∀ w:World,Sem.run Tryz.prog (callFunc 284 #[(.int .u64 4599676419600023552)]) w = .ok (.value (.float .f64 4599676419600023552)) w:=fun w=>zbi 4599676419600023552 w
 go_enter Tryz.func253,Tryz.ntmps253
 go_wp2_with fail
 go_ret
 exact ⟨rfl,zaa⟩
theorem inf_3:Calls Tryz.prog 222 #[(.float .f64 4599676419600023552),.int .i64 0] w (PRet w (.bool false)):=by
 have f1:∀ w:World,Sem.run Tryz.prog (binOp .gtr 229 (.float .f64 4599676419600023552) (.float .f64 9218868437227405311)) w = .ok (.bool false) w:=fun w=>by kernel_rfl
 go_enter Tryz.func222,Tryz.ntmps222
 go_wp2_with fail
 refine zf (abs_3) ?_
 rintro e w1 ⟨rfl,_⟩
 go_wp2_with fail
 go_ret
 exact ⟨rfl,zaa⟩
theorem nan_3:Calls Tryz.prog 221 #[(.float .f64 4599676419600023552)] w (PRet w (.bool false)):=by
 have f1:∀ w:World,Sem.run Tryz.prog (binOp .neq 229 (.float .f64 4599676419600023552) (.float .f64 4599676419600023552)) w = .ok (.bool false) w:=fun w=>by kernel_rfl
 go_enter Tryz.func221,Tryz.ntmps221
 go_wp2_with fail
 go_ret
 exact ⟨rfl,zaa⟩
theorem zfu:Calls Tryz.prog 280 #[(.float .f64 4599676419600023552)] w (PRet w (.tuple #[(.float .f64 4599676419600023552),.int .i64 0])):=by
 have f1:∀ w:World,Sem.run Tryz.prog (binOp .lss 229 (.float .f64 4599676419600023552) (.float .f64 4503599627370496)) w = .ok (.bool false) w:=fun w=>by kernel_rfl
 go_enter Tryz.func280,Tryz.ntmps280
 go_wp2_with fail
 refine zf (abs_3) ?_
 rintro e w1 ⟨rfl,_⟩
 go_wp2_with fail
 go_ret2
 exact ⟨rfl,zaa⟩
theorem ldexp_1:Calls Tryz.prog 252 #[(.float .f64 4712266410284285952),.int .i64 (-25)] w (PRet w (.float .f64 4599676419600023552)):=by
 have f1:(FloatKind.f64.format.order 4712266410284285952 0 == some Ordering.eq)=false:=by decide +kernel
 have f2:∀ w:World,Sem.run Tryz.prog (callFunc 281 #[(.float .f64 4712266410284285952)]) w = .ok (.value (.int .u64 4712266410284285952)) w:=fun w=>zcF 4712266410284285952 w
 have f3:bits BinOp.and .i64 1046 2047=1046:=by decide +kernel
 have f4:bits BinOp.andNot .u64 4712266410284285952 9218868437227405312=1501200054747136:=by decide +kernel
 have f5:bits BinOp.or .u64 1501200054747136 4598175219545276416=4599676419600023552:=by decide +kernel
 have f6:∀ w:World,Sem.run Tryz.prog (callFunc 284 #[(.int .u64 4599676419600023552)]) w = .ok (.value (.float .f64 4599676419600023552)) w:=fun w=>zbi 4599676419600023552 w
 have f7:=fun w=>run_float_arith (P:=Tryz.prog) (w:=w) .mul 229 .f64 4607182418800017408 4599676419600023552 4599676419600023552 (by decide +kernel)
 go_enter Tryz.func252,Tryz.ntmps252
 go_wp2_with ((first | (go_at_call 222; refine zf inf_1 ?_; rintro e w1 ⟨rfl,_⟩) | (go_at_call 221; refine zf nan_1 ?_; rintro e w1 ⟨rfl,_⟩) | (go_at_call 280; refine zf zi1 ?_; rintro e w1 ⟨rfl,_⟩)))
 go_ret
 exact ⟨rfl,zaa⟩
theorem Ldexp_1:Calls Tryz.prog 220 #[(.float .f64 4712266410284285952),.int .i64 (-25)] w (PRet w (.float .f64 4599676419600023552)):=by
 go_enter Tryz.func220,Tryz.ntmps220
 go_wp2_with fail
 refine zf (ldexp_1) ?_
 rintro e w1 ⟨rfl,_⟩
 go_wp2_with fail
 go_ret
 exact ⟨rfl,zaa⟩
theorem ldexp_2:Calls Tryz.prog 252 #[(.float .f64 4710765210229538816),.int .i64 (1)] w (PRet w (.float .f64 4715268809856909312)):=by
 have f1:(FloatKind.f64.format.order 4710765210229538816 0 == some Ordering.eq)=false:=by decide +kernel
 have f2:∀ w:World,Sem.run Tryz.prog (callFunc 281 #[(.float .f64 4710765210229538816)]) w = .ok (.value (.int .u64 4710765210229538816)) w:=fun w=>zcF 4710765210229538816 w
 have f3:bits BinOp.and .i64 1046 2047=1046:=by decide +kernel
 have f4:bits BinOp.andNot .u64 4710765210229538816 9218868437227405312=0:=by decide +kernel
 have f5:bits BinOp.or .u64 0 4715268809856909312=4715268809856909312:=by decide +kernel
 have f6:∀ w:World,Sem.run Tryz.prog (callFunc 284 #[(.int .u64 4715268809856909312)]) w = .ok (.value (.float .f64 4715268809856909312)) w:=fun w=>zbi 4715268809856909312 w
 have f7:=fun w=>run_float_arith (P:=Tryz.prog) (w:=w) .mul 229 .f64 4607182418800017408 4715268809856909312 4715268809856909312 (by decide +kernel)
 go_enter Tryz.func252,Tryz.ntmps252
 go_wp2_with ((first | (go_at_call 222; refine zf inf_2 ?_; rintro e w1 ⟨rfl,_⟩) | (go_at_call 221; refine zf nan_2 ?_; rintro e w1 ⟨rfl,_⟩) | (go_at_call 280; refine zf zi0 ?_; rintro e w1 ⟨rfl,_⟩)))
 go_ret
 exact ⟨rfl,zaa⟩
theorem Ldexp_2:Calls Tryz.prog 220 #[(.float .f64 4710765210229538816),.int .i64 (1)] w (PRet w (.float .f64 4715268809856909312)):=by
 go_enter Tryz.func220,Tryz.ntmps220
 go_wp2_with fail
 refine zf (ldexp_2) ?_
 rintro e w1 ⟨rfl,_⟩
 go_wp2_with fail
 go_ret
 exact ⟨rfl,zaa⟩
theorem ldexp_3:Calls Tryz.prog 252 #[(.float .f64 4599676419600023552),.int .i64 (25)] w (PRet w (.float .f64 4712266410284285952)):=by
 have f1:(FloatKind.f64.format.order 4599676419600023552 0 == some Ordering.eq)=false:=by decide +kernel
 have f2:∀ w:World,Sem.run Tryz.prog (callFunc 281 #[(.float .f64 4599676419600023552)]) w = .ok (.value (.int .u64 4599676419600023552)) w:=fun w=>zcF 4599676419600023552 w
 have f3:bits BinOp.and .i64 1021 2047=1021:=by decide +kernel
 have f4:bits BinOp.andNot .u64 4599676419600023552 9218868437227405312=1501200054747136:=by decide +kernel
 have f5:bits BinOp.or .u64 1501200054747136 4710765210229538816=4712266410284285952:=by decide +kernel
 have f6:∀ w:World,Sem.run Tryz.prog (callFunc 284 #[(.int .u64 4712266410284285952)]) w = .ok (.value (.float .f64 4712266410284285952)) w:=fun w=>zbi 4712266410284285952 w
 have f7:=fun w=>run_float_arith (P:=Tryz.prog) (w:=w) .mul 229 .f64 4607182418800017408 4712266410284285952 4712266410284285952 (by decide +kernel)
 go_enter Tryz.func252,Tryz.ntmps252
 go_wp2_with ((first | (go_at_call 222; refine zf inf_3 ?_; rintro e w1 ⟨rfl,_⟩) | (go_at_call 221; refine zf nan_3 ?_; rintro e w1 ⟨rfl,_⟩) | (go_at_call 280; refine zf zfu ?_; rintro e w1 ⟨rfl,_⟩)))
 go_ret
 exact ⟨rfl,zaa⟩
theorem Ldexp_3:Calls Tryz.prog 220 #[(.float .f64 4599676419600023552),.int .i64 (25)] w (PRet w (.float .f64 4712266410284285952)):=by
 go_enter Tryz.func220,Tryz.ntmps220
 go_wp2_with fail
 refine zf (ldexp_3) ?_
 rintro e w1 ⟨rfl,_⟩
 go_wp2_with fail
 go_ret
 exact ⟨rfl,zaa⟩
theorem frexp_3:Calls Tryz.prog 255 #[(.float .f64 4599676419600023552)] w (PRet w (.tuple #[(.float .f64 4604180019227394048),.int .i64 (-1)])):=by
 have f1:(FloatKind.f64.format.order 4599676419600023552 0 == some Ordering.eq)=false:=by decide +kernel
 have f2:∀ w:World,Sem.run Tryz.prog (callFunc 281 #[(.float .f64 4599676419600023552)]) w = .ok (.value (.int .u64 4599676419600023552)) w:=fun w=>zcF 4599676419600023552 w
 have f3:bits BinOp.and .u64 1021 2047=1021:=by decide +kernel
 have f3b:bits BinOp.and .i64 1021 2047=1021:=by decide +kernel
 have f4:bits BinOp.andNot .u64 4599676419600023552 9218868437227405312=1501200054747136:=by decide +kernel
 have f5:bits BinOp.or .u64 1501200054747136 4602678819172646912=4604180019227394048:=by decide +kernel
 have f6:∀ w:World,Sem.run Tryz.prog (callFunc 284 #[(.int .u64 4604180019227394048)]) w = .ok (.value (.float .f64 4604180019227394048)) w:=fun w=>zbi 4604180019227394048 w
 go_enter Tryz.func255,Tryz.ntmps255
 go_wp2_with ((first | (go_at_call 222; refine zf inf_3 ?_; rintro e w1 ⟨rfl,_⟩) | (go_at_call 221; refine zf nan_3 ?_; rintro e w1 ⟨rfl,_⟩) | (go_at_call 280; refine zf zfu ?_; rintro e w1 ⟨rfl,_⟩)))
 go_ret2
 exact ⟨rfl,zaa⟩
theorem Frexp_3:Calls Tryz.prog 223 #[(.float .f64 4599676419600023552)] w (PRet w (.tuple #[(.float .f64 4604180019227394048),.int .i64 (-1)])):=by
 go_enter Tryz.func223,Tryz.ntmps223
 go_wp2_with fail
 refine zf (frexp_3) ?_
 rintro e w1 ⟨rfl,_⟩
 go_wp2_with fail
 go_ret2
 exact ⟨rfl,zaa⟩
end
end
structure zgT (n one:Int) (N a:Nat):Prop where
 few:N < 2 ^ 40
 wd:∀ i,i <= N -> Wd (zaF n one i).1 a/\Wd (zaF n one i).2 a
 pos:∀ i,i < N -> 0 < (zaF n one i).2
 last:(zaF n one N).2 <= 0
def piI (one:Int) (N M:Nat):Int:=16 * (zaF 5 one N).1 - 4 * (zaF 239 one M).1
theorem zli {v1:Value} {one:Int} {N M a:Nat} {w:World} [h1:IntIs w v1 one] [d1:Wd one a] (ha:a <= 2 ^ 30) (hA:zgT 5 one N a) (hB:zgT 239 one M a):
  Calls Tryz.prog 279 #[v1] w (IRet w (piI one N M)):=by
 obtain ⟨s1,rfl,_,_⟩:=h1.form
 have HA:=zc hA; have HB:=zc hB; have HL:=zc ha
 have HP:=zc (show piI one N M=16 * (zaF 5 one N).1 - 4 * (zaF 239 one M).1 from rfl)
 have dA:Wd (zaF 5 one N).1 a:=(hA.wd N (zv _)).1
 have dB:Wd (zaF 239 one M).1 a:=(hB.wd M (zv _)).1
 have d16:Wd (16:Int) 1:=zbC (by omega) (by omega)
 have d4:Wd (4:Int) 1:=zbC (by omega) (by omega)
 have hM:a+a+a+a+99 <= MaxW:=by unfold MaxW; omega
 clear hA hB ha
 go_enter Tryz.func279,Tryz.ntmps279
 go_upto_region 1 with fail
 go_cut [3] (fun t3 wx=>∃ (g3:Nat) (s3:IV),t3 = .pointer (some ⟨g3,0,none⟩)/\Blk wx g3 98 #[.bool s3.b,s3.m.v]/\IntIs wx s3.v (16 * (zaF 5 one N).1)/\Blk wx w.heap.size 98 #[.bool s1.b,s1.m.v]/\Blk wx (w.heap.size+1) 98 #[.bool false,.slice none 0 0]/\Ge g3 w/\Apart (w.heap.size+1) g3/\Nxt w wx)
 case first=>
  (refine Code.nameW ?_; intro W hW; go_region_held3 (fun w'=>ButO W [] w') (exact zab) (((first | (go_at_call 141; refine zf (zaD (n:=16) (by omega) (by omega)) ?_; rintro e w1 ⟨s1,rfl,_,_⟩) | (go_at_call 168; refine zf (zah (by omega)) ?_; rintro e w1 ⟨s1,rfl,_,_⟩) | (go_at_call 303; refine zf (zdG (N:=N) (by decide) (by decide) HA.out.few HL.out HA.out.wd HA.out.pos HA.out.last) ?_; rintro e w1 ⟨s1,rfl,_,_⟩)))))
  all_goals go_wp2_with fail
  all_goals go_meet
  all_goals exact ⟨_,_,rfl,za,za,za,za,ge_of,za,zaa⟩
 case rest=>
  obtain ⟨g3,s3,rfl,_,_,_,_,_,hap,_⟩:=hcut
  have hap2:Apart g3 (w.heap.size+1):=⟨fun e=>hap.out e.symm⟩
  have:NotIn g3 [w.heap.size+1]:=za
  go_wp2_with fail
  (refine Code.nameW ?_; intro W hW; go_region_held3 (fun w'=>ButO W [w.heap.size+1] w') (exact zab) (((first | (go_at_call 141; refine zf (zaD (n:=4) (by omega) (by omega)) ?_; rintro e w1 ⟨s1,rfl,_,_⟩) | (go_at_call 168; refine zf (zah (by omega)) ?_; rintro e w1 ⟨s1,rfl,_,_⟩) | (go_at_call 239; refine zf (zcy (by omega)) ?_; rintro e w1 ⟨s1,rfl,_,_⟩) | (go_at_call 303; refine zf (zdG (N:=M) (by decide) (by decide) HB.out.few HL.out HB.out.wd HB.out.pos HB.out.last) ?_; rintro e w1 ⟨s1,rfl,_,_⟩)))))
  all_goals go_wp2_with fail
  all_goals simp [bodyPost,results,Tryz.results279,go_sem]
  all_goals exact ⟨_,rfl,by rw [HP.out]; infer_instance,zaa⟩
end Go.Proofs.YtombhkpniddceaaGreatDoor
