import Derived.Shelf.Strings.OnBuilder
import Derived.Shelf.Small.Bits
import Derived.Shelf.Small.Wraps
import Derived.Shelf.Strconv.Itoa1
import Derived.Shelf.Strconv.Itoa2
import Derived.Shelf.Strings.Shaped
import Derived.Shelf.Strings.Repeat
import Derived.Shelf.Strings.BuilderCap
import Derived.Shelf.Slices.SearchI
import Derived.Shelf.Slices.Cells
import Derived.Test.YtombhkpniddceaaGreatDoorProg
import Derived.Deep.AppendLies
import Derived.Shelf.Spec.BitsCarry
import Derived.WalkSpells
import Derived.BigQuiet
import Derived.Laws.CopyOwn
set_option maxHeartbeats 800000
set_option linter.all false
section
namespace Go.Proofs
open Go.Shelf
def Tryz.lays156_ren:Go.Shelf.Ren:=⟨fun | 156=>247 | 165=>275 | 166=>276 | 169=>278 | 240=>301 | 241=>302 | 276=>311 | 277=>312 | n=>n,fun | 31=>249 | 9=>9 | 3=>3 | 4=>4 | 0=>0 | 20=>20 | 72=>282 | 76=>286 | 70=>280 | 37=>235 | 75=>285 | 127=>304 | 164=>311 | 5=>5 | 80=>222 | n=>n,fun | n=>n⟩
theorem Tryz.lays156:Go.Proofs.Lays.n156 Tryz.prog Tryz.lays156_ren:={
 mixed:=by kernel_rfl
 f156:=Tryz.func247.trans (congrArg some (by kernel_rfl))
 f165:=Tryz.func275.trans (congrArg some (by kernel_rfl))
 f166:=Tryz.func276.trans (congrArg some (by kernel_rfl))
 f169:=Tryz.func278.trans (congrArg some (by kernel_rfl))
 f240:=Tryz.func301.trans (congrArg some (by kernel_rfl))
 f241:=Tryz.func302.trans (congrArg some (by kernel_rfl))
 f276:=Tryz.func311.trans (congrArg some (by kernel_rfl))
 f277:=Tryz.func312.trans (congrArg some (by kernel_rfl))
 t0:=Tryz.underlying0
 a0:=Tryz.isAgg0
 z0:=Tryz.sizeOf0
 v0:=Tryz.zeroValue0
 t3:=Tryz.underlying3
 a3:=Tryz.isAgg3
 z3:=Tryz.sizeOf3
 v3:=Tryz.zeroValue3
 t4:=Tryz.underlying4
 a4:=Tryz.isAgg4
 z4:=Tryz.sizeOf4
 v4:=Tryz.zeroValue4
 t9:=Tryz.underlying9
 a9:=Tryz.isAgg9
 z9:=Tryz.sizeOf9
 v9:=Tryz.zeroValue9
 t20:=Tryz.underlying20
 a20:=Tryz.isAgg20
 z20:=Tryz.sizeOf20
 v20:=Tryz.zeroValue20
 t31:=Tryz.underlying249
 a31:=Tryz.isAgg249
 z31:=Tryz.sizeOf249
 v31:=Tryz.zeroValue249
 t37:=Tryz.underlying235
 a37:=Tryz.isAgg235
 z37:=Tryz.sizeOf235
 v37:=Tryz.zeroValue235
 t70:=Tryz.underlying280
 a70:=Tryz.isAgg280
 z70:=Tryz.sizeOf280
 v70:=Tryz.zeroValue280
 t72:=Tryz.underlying282
 a72:=Tryz.isAgg282
 z72:=Tryz.sizeOf282
 v72:=Tryz.zeroValue282
 t75:=Tryz.underlying285
 a75:=Tryz.isAgg285
 z75:=Tryz.sizeOf285
 v75:=Tryz.zeroValue285
 t76:=Tryz.underlying286
 a76:=Tryz.isAgg286
 z76:=Tryz.sizeOf286
 v76:=Tryz.zeroValue286
 t127:=Tryz.underlying304
 a127:=Tryz.isAgg304
 z127:=Tryz.sizeOf304
 v127:=Tryz.zeroValue304
 t164:=Tryz.underlying311
 a164:=Tryz.isAgg311
 z164:=Tryz.sizeOf311
 v164:=Tryz.zeroValue311 }
theorem Tryz.Builder_Extra_156:Builder.Extra Tryz.prog Tryz.lays156_ren:={
 sizeBuilder:=by kernel_rfl
 liesBuilder:=by kernel_rfl
 t5:=Tryz.underlying5
 a5:=Tryz.isAgg5
 z5:=Tryz.sizeOf5
 v5:=Tryz.zeroValue5
 infoByte:=by kernel_rfl
 cellsByte:=by kernel_rfl
 sizeByte:=by kernel_rfl
 neB5:=by decide }
open Go.RowKit in
theorem Tryz.strings_Join (bk o c:Nat) (xs:List ByteArray) (sep:ByteArray) (w:World) (hcells:∀ (j:Nat) x,xs[j]?=some x -> w.cell? ⟨bk,o+j,none⟩=some (.string x)) (hbk:bk < w.heap.size) (hN:xs.length <= 140737488355328) (hcap:xs.length <= c) (hlen:(Lib.join (xs.map (·.data.toList)) sep.data.toList).length <= 140737488355328):
  Calls Tryz.prog 247 #[.slice (some ⟨bk,o,none⟩) xs.length c,.string sep] w fun e w'=>e = .returned (.string ⟨(Lib.join (xs.map (·.data.toList)) sep.data.toList).toArray⟩)/\Below w.heap.size w w':=Any.strings_Join Tryz.lays156 Tryz.Builder_Extra_156 bk o c xs sep w hcells hbk hN hcap hlen
def Tryz.lays134_ren:Go.Shelf.Ren:=⟨fun | 134=>265 | 129=>293 | n=>n,fun | 53=>220 | 3=>3 | 4=>4 | 46=>277 | 5=>5 | 9=>9 | n=>n,fun | n=>n⟩
theorem Tryz.lays134:Go.Proofs.Lays.n134 Tryz.prog Tryz.lays134_ren:={
 mixed:=by kernel_rfl
 f129:=Tryz.func293.trans (congrArg some (by kernel_rfl))
 f134:=Tryz.func265.trans (congrArg some (by kernel_rfl))
 t3:=Tryz.underlying3
 a3:=Tryz.isAgg3
 z3:=Tryz.sizeOf3
 v3:=Tryz.zeroValue3
 t4:=Tryz.underlying4
 a4:=Tryz.isAgg4
 z4:=Tryz.sizeOf4
 v4:=Tryz.zeroValue4
 t5:=Tryz.underlying5
 a5:=Tryz.isAgg5
 z5:=Tryz.sizeOf5
 v5:=Tryz.zeroValue5
 t9:=Tryz.underlying9
 a9:=Tryz.isAgg9
 z9:=Tryz.sizeOf9
 v9:=Tryz.zeroValue9
 t46:=Tryz.underlying277
 a46:=Tryz.isAgg277
 z46:=Tryz.sizeOf277
 v46:=Tryz.zeroValue277
 t53:=Tryz.underlying220
 a53:=Tryz.isAgg220
 z53:=Tryz.sizeOf220
 v53:=Tryz.zeroValue220 }
theorem Tryz.bits_LeadingZeros64 (x:Int) (w:World) (h0:0 <= x) (h1:x <= 18446744073709551615):
  Calls Tryz.prog 265 #[.int .u64 x] w fun e w'=>e = .returned (.int .i64 (64 - (Lib.bitLen x.toNat:Int)))/\w'=w:=Any.bits_LeadingZeros64 Tryz.lays134 x w h0 h1
def Tryz.lays103_ren:Go.Shelf.Ren:=⟨fun | 103=>157 | 210=>225 | 206=>257 | n=>n,fun | 9=>9 | 4=>4 | 24=>184 | 3=>3 | n=>n,fun | n=>n⟩
theorem Tryz.lays103:Go.Proofs.Lays.n103 Tryz.prog Tryz.lays103_ren:={
 mixed:=by kernel_rfl
 f103:=Tryz.func157.trans (congrArg some (by kernel_rfl))
 f206:=Tryz.func257.trans (congrArg some (by kernel_rfl))
 f210:=Tryz.func225.trans (congrArg some (by kernel_rfl))
 t3:=Tryz.underlying3
 a3:=Tryz.isAgg3
 z3:=Tryz.sizeOf3
 v3:=Tryz.zeroValue3
 t4:=Tryz.underlying4
 a4:=Tryz.isAgg4
 z4:=Tryz.sizeOf4
 v4:=Tryz.zeroValue4
 t9:=Tryz.underlying9
 a9:=Tryz.isAgg9
 z9:=Tryz.sizeOf9
 v9:=Tryz.zeroValue9
 t24:=Tryz.underlying184
 a24:=Tryz.isAgg184
 z24:=Tryz.sizeOf184
 v24:=Tryz.zeroValue184 }
open Go.RowKit in
theorem Tryz.strings_CutPrefix (s p:ByteArray) (w:World):
  Calls Tryz.prog 157 #[.string s,.string p] w fun e w'=>e = .returned (.tuple #[.string ⟨(Lib.trimPrefix s.data.toList p.data.toList).toArray⟩,.bool (Lib.hasPrefix s.data.toList p.data.toList)])/\w'=w:=Any.strings_CutPrefix Tryz.lays103 s p w
def Tryz.lays122_ren:Go.Shelf.Ren:=⟨fun | 122=>267 | 215=>294 | n=>n,fun | 3=>3 | 4=>4 | n=>n,fun | n=>n⟩
theorem Tryz.lays122:Go.Proofs.Lays.n122 Tryz.prog Tryz.lays122_ren:={
 mixed:=by kernel_rfl
 f122:=Tryz.func267.trans (congrArg some (by kernel_rfl))
 f215:=Tryz.func294.trans (congrArg some (by kernel_rfl))
 t3:=Tryz.underlying3
 a3:=Tryz.isAgg3
 z3:=Tryz.sizeOf3
 v3:=Tryz.zeroValue3
 t4:=Tryz.underlying4
 a4:=Tryz.isAgg4
 z4:=Tryz.sizeOf4
 v4:=Tryz.zeroValue4 }
open Go.RowKit in
theorem Tryz.cmp_Compare_int (x y:Int) (w:World):
  Calls Tryz.prog 267 #[.int .i64 x,.int .i64 y] w fun e w'=>e = .returned (.int .i64 (Lib.compareInt x y))/\w'=w:=Any.cmp_Compare_int Tryz.lays122 x y w
def Tryz.lays283_ren:Go.Shelf.Ren:=⟨fun | 283=>296 | n=>n,fun | 3=>3 | 9=>9 | 4=>4 | n=>n,fun | n=>n⟩
theorem Tryz.lays283:Go.Proofs.Lays.n283 Tryz.prog Tryz.lays283_ren:={
 mixed:=by kernel_rfl
 f283:=Tryz.func296.trans (congrArg some (by kernel_rfl))
 t3:=Tryz.underlying3
 a3:=Tryz.isAgg3
 z3:=Tryz.sizeOf3
 v3:=Tryz.zeroValue3
 t4:=Tryz.underlying4
 a4:=Tryz.isAgg4
 z4:=Tryz.sizeOf4
 v4:=Tryz.zeroValue4
 t9:=Tryz.underlying9
 a9:=Tryz.isAgg9
 z9:=Tryz.sizeOf9
 v9:=Tryz.zeroValue9 }
open Go.Lib in
theorem Tryz.internal_strconv_small (i:Nat) (h:i < 100) (w:World):
  Calls Tryz.prog 296 #[.int .i64 i] w fun e w'=>e = .returned (.string ⟨(Lib.decDigits i).toArray⟩)/\w'=w:=Any.internal_strconv_small Tryz.lays283 i h w
def Tryz.laysM284_ren:Go.Shelf.Ren:=⟨fun | 284=>297 | 129=>293 | 317=>307 | 318=>308 | n=>n,fun | 53=>220 | 3=>3 | 212=>308 | 0=>0 | 4=>4 | 46=>277 | 5=>5 | 9=>9 | n=>n,fun | 17=>4 | n=>n⟩
theorem Tryz.laysM284:Go.Proofs.LaysM.n284 Tryz.prog Tryz.laysM284_ren:={
 mixed:=by kernel_rfl
 f129:=Tryz.func293.trans (congrArg some (by kernel_rfl))
 f284:=Tryz.func297.trans (congrArg some (by kernel_rfl))
 f317:=Tryz.func307.trans (congrArg some (by kernel_rfl))
 f318:=Tryz.func308.trans (congrArg some (by kernel_rfl))
 t0:=Tryz.underlying0
 a0:=Tryz.isAgg0
 z0:=Tryz.sizeOf0
 v0:=Tryz.zeroValue0
 t3:=Tryz.underlying3
 a3:=Tryz.isAgg3
 z3:=Tryz.sizeOf3
 v3:=Tryz.zeroValue3
 t4:=Tryz.underlying4
 a4:=Tryz.isAgg4
 z4:=Tryz.sizeOf4
 v4:=Tryz.zeroValue4
 t5:=Tryz.underlying5
 a5:=Tryz.isAgg5
 z5:=Tryz.sizeOf5
 v5:=Tryz.zeroValue5
 t9:=Tryz.underlying9
 a9:=Tryz.isAgg9
 z9:=Tryz.sizeOf9
 v9:=Tryz.zeroValue9
 t46:=Tryz.underlying277
 a46:=Tryz.isAgg277
 z46:=Tryz.sizeOf277
 v46:=Tryz.zeroValue277
 t53:=Tryz.underlying220
 a53:=Tryz.isAgg220
 z53:=Tryz.sizeOf220
 v53:=Tryz.zeroValue220
 t212:=Tryz.underlying308
 a212:=Tryz.isAgg308
 z212:=Tryz.sizeOf308
 v212:=Tryz.zeroValue308
 g17:=by kernel_rfl
 i0:=by kernel_rfl
 i3:=by kernel_rfl
 i4:=by kernel_rfl
 i5:=by kernel_rfl
 i9:=by kernel_rfl
 i46:=by kernel_rfl
 i53:=by kernel_rfl
 i212:=by kernel_rfl
 m17:=by kernel_rfl }
open Go.Lib in
theorem Tryz.internal_strconv_numDigits (u:Nat) (h1:1 <= u) (h2:u < 18446744073709551616) (w:World) (htab:Lib.TabIs Tryz.prog w "internal/strconv.uint64pow10" .u64 Lib.pow10Tab):
  Calls Tryz.prog 297 #[.int .u64 u] w fun e w'=>e = .returned (.int .i64 (Lib.nDigits u))/\w'=w:=Any.internal_strconv_numDigits Tryz.laysM284 u h1 h2 w htab
def Tryz.lays285_ren:Go.Shelf.Ren:=⟨fun | 285=>298 | n=>n,fun | 37=>235 | 53=>220 | 3=>3 | 4=>4 | 51=>301 | 9=>9 | 5=>5 | 0=>0 | n=>n,fun | n=>n⟩
theorem Tryz.lays285:Go.Proofs.Lays.n285 Tryz.prog Tryz.lays285_ren:={
 mixed:=by kernel_rfl
 f285:=Tryz.func298.trans (congrArg some (by kernel_rfl))
 t0:=Tryz.underlying0
 a0:=Tryz.isAgg0
 z0:=Tryz.sizeOf0
 v0:=Tryz.zeroValue0
 t3:=Tryz.underlying3
 a3:=Tryz.isAgg3
 z3:=Tryz.sizeOf3
 v3:=Tryz.zeroValue3
 t4:=Tryz.underlying4
 a4:=Tryz.isAgg4
 z4:=Tryz.sizeOf4
 v4:=Tryz.zeroValue4
 t5:=Tryz.underlying5
 a5:=Tryz.isAgg5
 z5:=Tryz.sizeOf5
 v5:=Tryz.zeroValue5
 t9:=Tryz.underlying9
 a9:=Tryz.isAgg9
 z9:=Tryz.sizeOf9
 v9:=Tryz.zeroValue9
 t37:=Tryz.underlying235
 a37:=Tryz.isAgg235
 z37:=Tryz.sizeOf235
 v37:=Tryz.zeroValue235
 t51:=Tryz.underlying301
 a51:=Tryz.isAgg301
 z51:=Tryz.sizeOf301
 v51:=Tryz.zeroValue301
 t53:=Tryz.underlying220
 a53:=Tryz.isAgg220
 z53:=Tryz.sizeOf220
 v53:=Tryz.zeroValue220 }
open Go.RowKit Go.Sort Go.Lib in
theorem Tryz.internal_strconv_formatBase10 (blk off cap:Nat) (u:Nat) (d:Array UInt8) (w:World) (hH:Holds (fun (b:UInt8)=>Value.int .u8 (b.toNat:Int)) w blk off d) (hu:u < 10 ^ d.size) (hu64:u < 18446744073709551616) (hsz:d.size < 4611686018427387904):
  Calls Tryz.prog 298 #[.slice (some ⟨blk,off,none⟩) d.size cap,.int .u64 u] w fun e w'=>
   e = .returned (.tuple #[])/\∃ (n v':Nat) (dk:Array UInt8),w'=(putRow (fun (b:UInt8)=>Value.int .u8 (b.toNat:Int)) w blk off dk).drewN n/\FmtInv d.size u 0 v' dk:=Any.internal_strconv_formatBase10 Tryz.lays285 blk off cap u d w hH hu hu64 hsz
def Tryz.lays219_ren:Go.Shelf.Ren:=⟨fun | 219=>258 | 217=>285 | 225=>286 | 224=>287 | 267=>288 | 266=>304 | 314=>305 | n=>n,fun | 9=>9 | 3=>3 | 4=>4 | 5=>5 | 46=>277 | 146=>302 | 51=>301 | n=>n,fun | 1=>1 | n=>n⟩
theorem Tryz.lays219:Go.Proofs.Lays.n219 Tryz.prog Tryz.lays219_ren:={
 mixed:=by kernel_rfl
 f217:=Tryz.func285.trans (congrArg some (by kernel_rfl))
 f219:=Tryz.func258.trans (congrArg some (by kernel_rfl))
 f224:=Tryz.func287.trans (congrArg some (by kernel_rfl))
 f225:=Tryz.func286.trans (congrArg some (by kernel_rfl))
 f266:=Tryz.func304.trans (congrArg some (by kernel_rfl))
 f267:=Tryz.func288.trans (congrArg some (by kernel_rfl))
 f314:=Tryz.func305.trans (congrArg some (by kernel_rfl))
 t3:=Tryz.underlying3
 a3:=Tryz.isAgg3
 z3:=Tryz.sizeOf3
 v3:=Tryz.zeroValue3
 t4:=Tryz.underlying4
 a4:=Tryz.isAgg4
 z4:=Tryz.sizeOf4
 v4:=Tryz.zeroValue4
 t5:=Tryz.underlying5
 a5:=Tryz.isAgg5
 z5:=Tryz.sizeOf5
 v5:=Tryz.zeroValue5
 t9:=Tryz.underlying9
 a9:=Tryz.isAgg9
 z9:=Tryz.sizeOf9
 v9:=Tryz.zeroValue9
 t46:=Tryz.underlying277
 a46:=Tryz.isAgg277
 z46:=Tryz.sizeOf277
 v46:=Tryz.zeroValue277
 t51:=Tryz.underlying301
 a51:=Tryz.isAgg301
 z51:=Tryz.sizeOf301
 v51:=Tryz.zeroValue301
 t146:=Tryz.underlying302
 a146:=Tryz.isAgg302
 z146:=Tryz.sizeOf302
 v146:=Tryz.zeroValue302
 g1:=by kernel_rfl }
open Go.RowKit Go.Lib in
theorem Tryz.stringslite_Index_one (s:ByteArray) (c:UInt8) (w:World):
  Calls Tryz.prog 258 #[.string s,.string ⟨#[c]⟩] w fun e w'=>e = .returned (.int .i64 (Lib.indexByte s.data.toList c))/\w'=w:=Any.stringslite_Index_one Tryz.lays219 s c w
def Tryz.lays264_ren:Go.Shelf.Ren:=⟨fun | 264=>289 | n=>n,fun | 53=>220 | 46=>277 | n=>n,fun | n=>n⟩
theorem Tryz.lays264:Go.Proofs.Lays.n264 Tryz.prog Tryz.lays264_ren:={
 mixed:=by kernel_rfl
 f264:=Tryz.func289.trans (congrArg some (by kernel_rfl))
 t46:=Tryz.underlying277
 a46:=Tryz.isAgg277
 z46:=Tryz.sizeOf277
 v46:=Tryz.zeroValue277
 t53:=Tryz.underlying220
 a53:=Tryz.isAgg220
 z53:=Tryz.sizeOf220
 v53:=Tryz.zeroValue220 }
open Go.RowKit Go.Lib in
theorem Tryz.bits_Mul64 (x y:Nat) (hx:x < 18446744073709551616) (hy:y < 18446744073709551616) (w:World):
  Calls Tryz.prog 289 #[.int .u64 x,.int .u64 y] w fun e w'=>e = .returned (.tuple #[.int .u64 ((x * y / 18446744073709551616:Nat):Int),.int .u64 ((x * y % 18446744073709551616:Nat):Int)])/\w'=w:=Any.bits_Mul64 Tryz.lays264 x y hx hy w
def Tryz.lays105_ren:Go.Shelf.Ren:=⟨fun | 105=>245 | 212=>273 | 99=>274 | 165=>275 | 166=>276 | 170=>277 | 169=>278 | 263=>300 | 264=>289 | 206=>257 | 240=>301 | 241=>302 | 276=>311 | 277=>312 | n=>n,fun | 9=>9 | 3=>3 | 4=>4 | 20=>20 | 0=>0 | 46=>277 | 109=>278 | 5=>5 | 72=>282 | 76=>286 | 51=>301 | 146=>302 | 53=>220 | 148=>275 | 70=>280 | 37=>235 | 75=>285 | 127=>304 | 164=>311 | 80=>222 | n=>n,fun | n=>n⟩
theorem Tryz.lays105:Go.Proofs.Lays.n105 Tryz.prog Tryz.lays105_ren:={
 mixed:=by kernel_rfl
 f99:=Tryz.func274.trans (congrArg some (by kernel_rfl))
 f105:=Tryz.func245.trans (congrArg some (by kernel_rfl))
 f165:=Tryz.func275.trans (congrArg some (by kernel_rfl))
 f166:=Tryz.func276.trans (congrArg some (by kernel_rfl))
 f169:=Tryz.func278.trans (congrArg some (by kernel_rfl))
 f170:=Tryz.func277.trans (congrArg some (by kernel_rfl))
 f206:=Tryz.func257.trans (congrArg some (by kernel_rfl))
 f212:=Tryz.func273.trans (congrArg some (by kernel_rfl))
 f240:=Tryz.func301.trans (congrArg some (by kernel_rfl))
 f241:=Tryz.func302.trans (congrArg some (by kernel_rfl))
 f263:=Tryz.func300.trans (congrArg some (by kernel_rfl))
 f264:=Tryz.func289.trans (congrArg some (by kernel_rfl))
 f276:=Tryz.func311.trans (congrArg some (by kernel_rfl))
 f277:=Tryz.func312.trans (congrArg some (by kernel_rfl))
 t0:=Tryz.underlying0
 a0:=Tryz.isAgg0
 z0:=Tryz.sizeOf0
 v0:=Tryz.zeroValue0
 t3:=Tryz.underlying3
 a3:=Tryz.isAgg3
 z3:=Tryz.sizeOf3
 v3:=Tryz.zeroValue3
 t4:=Tryz.underlying4
 a4:=Tryz.isAgg4
 z4:=Tryz.sizeOf4
 v4:=Tryz.zeroValue4
 t5:=Tryz.underlying5
 a5:=Tryz.isAgg5
 z5:=Tryz.sizeOf5
 v5:=Tryz.zeroValue5
 t9:=Tryz.underlying9
 a9:=Tryz.isAgg9
 z9:=Tryz.sizeOf9
 v9:=Tryz.zeroValue9
 t20:=Tryz.underlying20
 a20:=Tryz.isAgg20
 z20:=Tryz.sizeOf20
 v20:=Tryz.zeroValue20
 t37:=Tryz.underlying235
 a37:=Tryz.isAgg235
 z37:=Tryz.sizeOf235
 v37:=Tryz.zeroValue235
 t46:=Tryz.underlying277
 a46:=Tryz.isAgg277
 z46:=Tryz.sizeOf277
 v46:=Tryz.zeroValue277
 t51:=Tryz.underlying301
 a51:=Tryz.isAgg301
 z51:=Tryz.sizeOf301
 v51:=Tryz.zeroValue301
 t53:=Tryz.underlying220
 a53:=Tryz.isAgg220
 z53:=Tryz.sizeOf220
 v53:=Tryz.zeroValue220
 t70:=Tryz.underlying280
 a70:=Tryz.isAgg280
 z70:=Tryz.sizeOf280
 v70:=Tryz.zeroValue280
 t72:=Tryz.underlying282
 a72:=Tryz.isAgg282
 z72:=Tryz.sizeOf282
 v72:=Tryz.zeroValue282
 t75:=Tryz.underlying285
 a75:=Tryz.isAgg285
 z75:=Tryz.sizeOf285
 v75:=Tryz.zeroValue285
 t76:=Tryz.underlying286
 a76:=Tryz.isAgg286
 z76:=Tryz.sizeOf286
 v76:=Tryz.zeroValue286
 t109:=Tryz.underlying278
 a109:=Tryz.isAgg278
 z109:=Tryz.sizeOf278
 v109:=Tryz.zeroValue278
 t127:=Tryz.underlying304
 a127:=Tryz.isAgg304
 z127:=Tryz.sizeOf304
 v127:=Tryz.zeroValue304
 t146:=Tryz.underlying302
 a146:=Tryz.isAgg302
 z146:=Tryz.sizeOf302
 v146:=Tryz.zeroValue302
 t148:=Tryz.underlying275
 a148:=Tryz.isAgg275
 z148:=Tryz.sizeOf275
 v148:=Tryz.zeroValue275
 t164:=Tryz.underlying311
 a164:=Tryz.isAgg311
 z164:=Tryz.sizeOf311
 v164:=Tryz.zeroValue311 }
theorem Tryz.Builder_Extra_105:Builder.Extra Tryz.prog Tryz.lays105_ren:={
 sizeBuilder:=by kernel_rfl
 liesBuilder:=by kernel_rfl
 t5:=Tryz.underlying5
 a5:=Tryz.isAgg5
 z5:=Tryz.sizeOf5
 v5:=Tryz.zeroValue5
 infoByte:=by kernel_rfl
 cellsByte:=by kernel_rfl
 sizeByte:=by kernel_rfl
 neB5:=by decide }
open Go.RowKit Go.Lib in
theorem Tryz.strings_Repeat (s:ByteArray) (c:Nat) (w:World) (hc:c <= 9223372036854775807) (hlen:s.size * c <= 140737488355328):
  Calls Tryz.prog 245 #[.string s,.int .i64 c] w fun e w'=>e = .returned (.string ⟨(Lib.repeatL s.data.toList c).toArray⟩)/\Below w.heap.size w w':=Any.strings_Repeat Tryz.lays105 Tryz.Builder_Extra_105 s c w hc hlen
def Tryz.laysNm217_ren:Go.Shelf.Ren:=⟨fun | 17=>246 | n=>n,fun | 24=>249 | 9=>9 | 3=>3 | 4=>4 | 0=>0 | n=>n,fun | n=>n⟩
theorem Tryz.laysNm217:Go.Proofs.Lays2.n17 Tryz.prog Tryz.laysNm217_ren:={
 mixed:=by kernel_rfl
 f17:=Tryz.func246.trans (congrArg some (by kernel_rfl))
 t0:=Tryz.underlying0
 a0:=Tryz.isAgg0
 z0:=Tryz.sizeOf0
 v0:=Tryz.zeroValue0
 t3:=Tryz.underlying3
 a3:=Tryz.isAgg3
 z3:=Tryz.sizeOf3
 v3:=Tryz.zeroValue3
 t4:=Tryz.underlying4
 a4:=Tryz.isAgg4
 z4:=Tryz.sizeOf4
 v4:=Tryz.zeroValue4
 t9:=Tryz.underlying9
 a9:=Tryz.isAgg9
 z9:=Tryz.sizeOf9
 v9:=Tryz.zeroValue9
 t24:=Tryz.underlying249
 a24:=Tryz.isAgg249
 z24:=Tryz.sizeOf249
 v24:=Tryz.zeroValue249 }
open Go.RowKit Go.Lib Go.Sort in
theorem Tryz.slices_Reverse_string (blk off cap:Nat) (zs:List (List UInt8)) (w:World) (hH:Holds encStr w blk off zs.toArray) (hsz:zs.length <= 9223372036854775807):
  Calls Tryz.prog 246 #[.slice (some ⟨blk,off,none⟩) zs.length cap] w fun e w'=>e = .returned (.tuple #[])/\∃ n,w'=putRow encStr (Sort.ahead w n) blk off zs.reverse.toArray:=Any.slices_Reverse_string Tryz.laysNm217 blk off cap zs w hH hsz
end Go.Proofs
end
namespace Go.Proofs.YtombhkpniddceaaGreatDoor
open Go.RowKit
abbrev za.{u}:=@inferInstance.{u}
theorem zf {P:Program} {f:FuncId} {args:Array Value} {w:World} {R R':Ending->World->Prop} (h:Calls P f args w R) (hr:∀ e w',R e w'->R' e w'):Calls P f args w R':=h.mono hr
abbrev zg.{u}:=@List.getElem?_eq_getElem.{u}
abbrev zh.{u}:=@List.getElem?_eq_some_iff.{u}
abbrev zk.{u}:=@List.mem_of_getElem?.{u}
abbrev zl.{u}:=@Option.some.inj.{u}
abbrev zo:=@Nat.le_trans
abbrev zv:=@Nat.le_refl
abbrev zw:=@Nat.mul_comm
abbrev zx:=@IntKind.wrap_i64
def B64:Nat:=18446744073709551616
theorem zaw (a:Addr) (n:Nat):(a.add n).block=a.block:=by unfold Addr.add; split <;> rfl
theorem zkR (a:Addr) (i j:Nat):(a.add i).add j=a.add (i+j):=by
 unfold Addr.add
 by_cases hi:i=0 <;> by_cases hj:j=0 <;> simp [hi,hj,Nat.add_assoc]
def cellsOf (ws:List Nat):List Value:=ws.map fun (x:Nat)=>Value.int .u64 (x:Int)
structure WordsAt (w:World) (A:Option Addr) (ws:List Nat):Prop where
 lt:∀ x ∈ ws,x < B64
 at_:∀ (j u:Nat),ws[j]?=some u -> ∃ ad,A=some ad/\ad.block < w.heap.size/\w.cell? (ad.add j)=some (.int .u64 (u:Int))
theorem WordsAt.nil (w:World) (A:Option Addr):WordsAt w A []:=⟨by simp,by simp⟩
theorem WordsAt.below {w w':World} {A:Option Addr} {ws:List Nat} (h:WordsAt w A ws) (hb:Below w.heap.size w w'):WordsAt w' A ws:=
 ⟨h.lt, fun j u hu => by
  obtain ⟨ad,e,hl,hc⟩:=h.at_ j u hu
  exact ⟨ad,e,Nat.lt_of_lt_of_le hl hb.size,(hb.cell (by rw [zaw]; exact hl)).trans hc⟩⟩
theorem WordsAt.drew {w:World} {A:Option Addr} {ws:List Nat} (h:WordsAt w A ws):WordsAt w.drew A ws:=h.below (Below.refl _ _).drew
theorem WordsAt.alloc {w:World} {A:Option Addr} {ws:List Nat} (h:WordsAt w A ws) (o:Obj):WordsAt (w.alloc o) A ws:=h.below ((Below.refl _ _).alloc (zv _) o)
theorem WordsAt.take {w:World} {A:Option Addr} {ws:List Nat} (h:WordsAt w A ws) (n:Nat):WordsAt w A (ws.take n):=
 ⟨fun x hx => h.lt x (List.mem_of_mem_take hx), fun j u hu => by
  refine h.at_ j u ?_
  rw [List.getElem?_take] at hu
  split at hu
  ·exact hu
  ·cases hu⟩
theorem zc {p:Prop} (h:p):Hid p:=h
theorem Hid.mk {p:Prop} (h:p):Hid p:=h
theorem WordsAt.get {w:World} {A:Option Addr} {ws:List Nat} (h:WordsAt w A ws) {k:Nat} (hk:k < ws.length):
  ∃ (ad:Addr) (x:Nat),A=some ad/\ad.block < w.heap.size/\w.cell? (ad.add k)=some (.int .u64 (x:Int))/\x < B64/\Hid (ws[k]?=some x):=by
 obtain ⟨ad,e,hl,hc⟩:=h.at_ k _ (zg hk)
 exact ⟨ad,_,e,hl,hc,h.lt _ (List.getElem_mem hk),zg hk⟩
def val:List Nat -> Nat
 | []=>0
 | x :: r=>x+B64 * val r
def limbs (n:Nat):List Nat:=
 if _h:n=0 then [] else n % B64 :: limbs (n / B64)
termination_by n
decreasing_by exact Nat.div_lt_self (by omega) (by unfold B64; omega)
theorem zao:limbs 0=[]:=by unfold limbs; simp
theorem zbb {n:Nat} (h:n ≠ 0):limbs n=n % B64 :: limbs (n / B64):=by rw [limbs]; simp [h]
theorem zfC {n:Nat}:limbs n=[] ↔ n=0:=by
 constructor
 ·intro h
  by_cases h0:n=0
  ·exact h0
  ·rw [zbb h0] at h; cases h
 ·rintro rfl; exact zao
theorem zaE:0 < B64:=by unfold B64; omega
theorem zcI (n:Nat):∀ x ∈ limbs n,x < B64:=by
 induction n using Nat.strongRecOn with
 | _ n ih=>
  by_cases h0:n=0
  ·subst h0; simp [zao]
  ·rw [zbb h0]
   intro x hx
   rcases List.mem_cons.1 hx with rfl | hx
   ·exact Nat.mod_lt _ zaE
   ·exact ih _ (Nat.div_lt_self (by omega) (by unfold B64; omega)) x hx
theorem zan (n:Nat):val (limbs n)=n:=by
 induction n using Nat.strongRecOn with
 | _ n ih=>
  by_cases h0:n=0
  ·subst h0; simp [zao,val]
  ·rw [zbb h0, val, ih _ (Nat.div_lt_self (by omega) (by unfold B64; omega))]
   exact Nat.mod_add_div n B64
theorem zcx {x n:Nat} (hx:x < B64) (h:x+B64 * n ≠ 0):limbs (x+B64 * n)=x :: limbs n:=by
 rw [zbb h,Nat.add_mul_mod_self_left,Nat.mod_eq_of_lt hx,Nat.add_mul_div_left _ _ zaE,Nat.div_eq_of_lt hx,Nat.zero_add]
theorem zc9 (ws:List Nat) (h:∀ x ∈ ws,x < B64):(limbs (val ws)).length <= ws.length/\ws.take (limbs (val ws)).length=limbs (val ws):=by
 induction ws with
 | nil=>simp [val,zao]
 | cons x r ih=>
  obtain ⟨i1,i2⟩:=ih fun y hy=>h y (List.mem_cons_of_mem _ hy)
  have hx:=h x List.mem_cons_self
  by_cases h0:x+B64 * val r=0
  ·simp [val,h0,zao]
  ·rw [val, zcx hx h0]
   exact ⟨by simpa using i1,by simp [i2]⟩
theorem val_append (a b:List Nat):val (a ++ b)=val a+B64 ^ a.length * val b:=by
 induction a with
 | nil=>simp [val]
 | cons x r ih=>
  simp only [List.cons_append,val,ih,List.length_cons,Nat.pow_succ,Nat.mul_add,Nat.add_assoc]
  rw [zw (B64 ^ r.length) B64,Nat.mul_assoc]
theorem zgv (r:List Nat) (x:Nat) (h:∀ y ∈ r,y < B64) (hx:x < B64) (h0:x ≠ 0):limbs (val (r ++ [x]))=r ++ [x]:=by
 induction r with
 | nil=>
  have e:val [x]=x+B64 * 0:=by simp [val]
  rw [List.nil_append,e,zcx hx (by omega),zao]
 | cons y s ih=>
  have hv:val (s ++ [x]) ≠ 0:=by
   rw [val_append]
   have:0 < B64 ^ s.length * x:=Nat.mul_pos (Nat.pow_pos zaE) (by omega)
   simp [val]; omega
  have hb:0 < B64 * val (s ++ [x]):=Nat.mul_pos zaE (by omega)
  rw [List.cons_append,val,zcx (h y List.mem_cons_self) (by omega),ih fun z hz=>h z (List.mem_cons_of_mem _ hz)]
theorem zaU {ws:List Nat} {k x:Nat} (h:ws[k]?=some x):ws.take (k+1)=ws.take k ++ [x]:=by rw [List.take_add_one,h]; rfl
theorem zkw {ws:List Nat} {k x:Nat} (hb:∀ y ∈ ws,y < B64) (h:ws[k]?=some x) (h0:x ≠ 0):limbs (val (ws.take (k+1)))=ws.take (k+1):=by
 rw [zaU h]
 exact zgv _ _ (fun y hy=>hb y (List.mem_of_mem_take hy)) (hb x (zk h)) h0
theorem zdC (r:List Nat):val (r ++ [0])=val r:=by rw [val_append]; simp [val]
theorem zcS (ws:List Nat) (h:∀ x ∈ ws,x < B64):val ws < B64 ^ ws.length:=by
 induction ws with
 | nil=>simp [val]
 | cons x r ih=>
  have i:=ih fun y hy=>h y (List.mem_cons_of_mem _ hy)
  have hx:=h x List.mem_cons_self
  rw [val,List.length_cons,Nat.pow_succ,zw (B64 ^ r.length)]
  calc x+B64 * val r < B64+B64 * val r:=by omega
   _=B64 * (val r+1):=by rw [Nat.mul_add]; omega
   _ <= B64 * B64 ^ r.length:=Nat.mul_le_mul_left _ i
class NatIs (w:World) (v:Value) (n:outParam Nat):Prop where
 ex:∃ A c,v = .slice A (limbs n).length c/\(limbs n).length <= c/\c <= maxLen/\WordsAt w A (limbs n)
theorem NatIs.below {w w':World} {v:Value} {n:Nat} (h:NatIs w v n) (hb:Below w.heap.size w w'):NatIs w' v n:=by
 obtain ⟨A,c,e,h1,h2,h3⟩:=h
 exact ⟨A,c,e,h1,h2,h3.below hb⟩
theorem NatIs.zero (w:World):NatIs w (.slice none 0 0) 0:=⟨none,0,by simp [zao],by simp [zao],by unfold maxLen; omega,by rw [zao]; exact WordsAt.nil _ _⟩
structure Buf (w:World) (g:Nat) (ws:List Nat):Prop where
 lt:∀ x ∈ ws,x < B64
 row:∃ tl:List Value,w.heap[g]?=some (.cells (cellsOf ws ++ tl).toArray 220 (0,0))
theorem Buf.size {w:World} {g:Nat} {ws:List Nat} (h:Buf w g ws):g < w.heap.size:=by
 rcases Nat.lt_or_ge g w.heap.size with hlt | hge
 ·exact hlt
 ·obtain ⟨_,tl,this⟩:=h; rw [Array.getElem?_eq_none hge] at this; cases this
theorem Buf.cell {w:World} {g:Nat} {ws:List Nat} (h:Buf w g ws) {i x:Nat} (hx:ws[i]?=some x):w.cell? ⟨g,i,none⟩=some (.int .u64 (x:Int)):=by
 obtain ⟨_,tl,hr⟩:=h
 rw [cell_of_row w g i _ _ _ hr]
 obtain ⟨hi,_⟩:=zh.1 hx
 rw [List.getElem?_toArray,List.getElem?_append_left (by simpa [cellsOf] using hi)]
 simp [cellsOf,hx]
theorem Buf.frozen {w:World} {g:Nat} {ws:List Nat} (h:Buf w g ws) (i:Nat):w.frozen? ⟨g,i,none⟩=false:=by
 obtain ⟨_,tl,hr⟩:=h
 simp [World.frozen?,hr]
theorem Buf.set_ {w:World} {g:Nat} {ws:List Nat} (h:Buf w g ws) (i s:Nat) (hs:s < B64):Buf (w.setCell ⟨g,i,none⟩ (.int .u64 (s:Int))) g (ws.set i s):=by
 refine ⟨fun x hx=>?_,?_⟩
 ·rcases List.mem_or_eq_of_mem_set hx with hx | rfl
  ·exact h.lt x hx
  ·exact hs
 ·obtain ⟨_, tl, hr⟩ := h
  by_cases hi:i < ws.length
  ·exact ⟨tl,by simp [World.setCell,Array.getElem?_modify,hr,cellsOf,List.map_set,List.set_append_left _ _ (show i < (List.map (fun (x:Nat)=>Value.int .u64 (x:Int)) ws).length by simpa using hi)]⟩
  ·exact ⟨tl.set (i - ws.length) (.int .u64 (s:Int)),by
    rw [List.set_eq_of_length_le (by omega)]
    simp [World.setCell,Array.getElem?_modify,hr,cellsOf,List.set_append_right _ _ (show (List.map (fun (x:Nat)=>Value.int .u64 (x:Int)) ws).length <= i by simp; omega)]⟩
theorem Buf.drew {w:World} {g:Nat} {ws:List Nat} (h:Buf w g ws):Buf w.drew g ws:=⟨h.lt,h.row⟩
theorem Buf.keep {w w':World} {g:Nat} {ws:List Nat} (h:Buf w g ws) (e:w'.heap[g]?=w.heap[g]?):Buf w' g ws:=⟨h.lt,let ⟨tl,hr⟩:=h.row; ⟨tl,e.trans hr⟩⟩
theorem Buf.alloc {w:World} {g:Nat} {ws:List Nat} (h:Buf w g ws) (o:Obj):Buf (w.alloc o) g ws:=h.keep (Below.heap_alloc w o g h.size)
theorem Buf.far {w:World} {g:Nat} {ws:List Nat} (h:Buf w g ws) {p:Addr} (hp:g ≠ p.block) (u:Value):Buf (w.setCell p u) g ws:=h.keep (Below.heap_setCell w p u g hp)
theorem Buf.below {w w':World} {g:Nat} {ws:List Nat} (h:Buf w g ws) (hb:Below w.heap.size w w'):Buf w' g ws:=h.keep (hb.block g h.size)
theorem Buf.words {w:World} {g:Nat} {ws:List Nat} (h:Buf w g ws) (o n:Nat):WordsAt w (some ⟨g,o,none⟩) ((ws.drop o).take n):=
 ⟨fun x hx => h.lt x (List.mem_of_mem_drop (List.mem_of_mem_take hx)), fun j u hu => by
  refine ⟨_,rfl,h.size,?_⟩
  have e:(Addr.add ⟨g,o,none⟩ j)=⟨g,o+j,none⟩:=by unfold Addr.add; by_cases hj:j=0 <;> simp [hj]
  rw [e]
  apply h.cell
  rw [List.getElem?_take] at hu
  split at hu
  ·rw [List.getElem?_drop] at hu; exact hu
  ·cases hu⟩
structure Drew (w w':World):Prop where
 ex:∃ n,w'=w.drewN n
theorem Drew.refl (w:World):Drew w w:=⟨0,rfl⟩
theorem Drew.more {w w':World} (h:Drew w w') (n:Nat):Drew w (w'.drewN n):=by
 obtain ⟨m,rfl⟩:=h
 exact ⟨m+n,by rw [World.drewN_drewN]⟩
theorem Drew.trans {w w' w'':World} (h:Drew w w') (k:Drew w' w''):Drew w w'':=by
 obtain ⟨n,rfl⟩:=k
 exact h.more n
theorem Drew.below {w w':World} (h:Drew w w') (B:Nat):Below B w w':=by
 obtain ⟨n,rfl⟩:=h
 exact ⟨rfl,rfl,rfl,zv _,fun _ _=>rfl⟩
theorem Drew.words {w w':World} (h:Drew w w') {A:Option Addr} {ws:List Nat} (hw:WordsAt w A ws):WordsAt w' A ws:=hw.below (h.below _)
theorem Drew.size {w w':World} (h:Drew w w'):w'.heap.size=w.heap.size:=by obtain ⟨n,rfl⟩:=h; rfl
structure Only (g:Nat) (w w':World):Prop where
 os:w'.os=w.os
 tape:w'.tape=w.tape
 output:w'.output=w.output
 size:w'.heap.size=w.heap.size
 block:∀ k,k ≠ g -> w'.heap[k]?=w.heap[k]?
theorem Only.refl (g:Nat) (w:World):Only g w w:=⟨rfl,rfl,rfl,rfl,fun _ _=>rfl⟩
theorem Only.trans {g:Nat} {a b c:World} (h:Only g a b) (k:Only g b c):Only g a c:=
 ⟨k.os.trans h.os,k.tape.trans h.tape,k.output.trans h.output,k.size.trans h.size,fun i hi=>(k.block i hi).trans (h.block i hi)⟩
theorem Only.drew {g:Nat} {a b:World} (h:Only g a b):Only g a b.drew:=⟨h.os,h.tape,h.output,h.size,h.block⟩
theorem Only.set_ {g:Nat} {a b:World} (h:Only g a b) (i:Nat) (u:Value):Only g a (b.setCell ⟨g,i,none⟩ u):=
 ⟨h.os,h.tape,h.output,by simp [World.setCell,h.size],fun k hk=>(Below.heap_setCell b ⟨g,i,none⟩ u k hk).trans (h.block k hk)⟩
theorem Only.below {g B:Nat} {a b:World} (h:Only g a b) (hB:B <= g):Below B a b:=⟨h.os,h.tape,h.output,by rw [h.size]; exact zv _,fun k hk=>h.block k (by omega)⟩
theorem Only.words {g:Nat} {a b:World} (h:Only g a b) {A:Option Addr} {ws:List Nat} (hw:WordsAt a A ws) (hA:∀ ad,A=some ad -> 0 < ws.length -> ad.block ≠ g):WordsAt b A ws:=
 ⟨hw.lt, fun j u hu => by
  obtain ⟨ad,e,hl,hc⟩:=hw.at_ j u hu
  refine ⟨ad,e,by rw [h.size]; exact hl,?_⟩
  rw [<- hc]
  exact World.cell?_of_block (w:=a) (h.block _ (by rw [zaw]; exact hA ad e (by obtain ⟨hj,_⟩:=zh.1 hu; omega)))⟩
theorem WordsAt.ne_ {w:World} {A:Option Addr} {ws:List Nat} (h:WordsAt w A ws) {g:Nat} (hg:w.heap.size <= g):∀ ad,A=some ad -> 0 < ws.length -> ad.block ≠ g:=by
 rintro ad rfl h0
 obtain ⟨ad',_,e,hl,_⟩:=h.get h0
 cases e
 omega
def wl (n:Nat):Nat:=(limbs n).length
theorem ze5 (n:Nat):(limbs n).length=wl n:=rfl
theorem zhw {ws:List Nat} (h:∀ x ∈ ws,x < B64):wl (val ws) <= ws.length:=(zc9 ws h).1
theorem zaz (n:Nat):n < B64 ^ wl n:=by
 have:=zcS (limbs n) (zcI n)
 rwa [zan] at this
theorem zaf {n k:Nat} (h:n < B64 ^ k):wl n <= k:=by
 induction k generalizing n with
 | zero=>
  have:n=0:=by simp at h; exact h
  subst this
  simp [wl,zao]
 | succ k ih=>
  by_cases h0:n=0
  ·subst h0; simp [wl,zao]
  ·have:n / B64 < B64 ^ k:=by
    rw [Nat.div_lt_iff_lt_mul zaE]
    rwa [Nat.pow_succ] at h
   have:=ih this
   unfold wl at this ⊢
   rw [zbb h0,List.length_cons]
   omega
theorem zar {a b:Nat} (h:a <= b):wl a <= wl b:=zaf (Nat.lt_of_le_of_lt h (zaz b))
theorem zaV {j k:Nat} (h:j <= k):B64 ^ j <= B64 ^ k:=Nat.pow_le_pow_right zaE h
theorem zgy (a b:Nat):wl (a * b) <= wl a+wl b:=by
 apply zaf
 rw [Nat.pow_add]
 have h1:=zaz a
 have h2:=zaz b
 rcases Nat.eq_zero_or_pos b with rfl | hb
 ·rw [Nat.mul_zero]; exact Nat.mul_pos (by omega) (by omega)
 ·exact Nat.mul_lt_mul_of_lt_of_lt h1 h2
theorem zhx (a b:Nat):wl (a+b) <= max (wl a) (wl b)+1:=by
 apply zaf
 have h1:=Nat.lt_of_lt_of_le (zaz a) (zaV (Nat.le_max_left (wl a) (wl b)))
 have h2:=Nat.lt_of_lt_of_le (zaz b) (zaV (Nat.le_max_right (wl a) (wl b)))
 rw [Nat.pow_succ]
 generalize B64 ^ max (wl a) (wl b)=X at *
 unfold B64
 omega
theorem zbE:wl 0=0:=by simp [wl,zao]
theorem ze4 {n:Nat} (h:n ≠ 0):0 < wl n:=by
 rcases Nat.eq_zero_or_pos (wl n) with h0 | h0
 ·exact absurd (zfC.1 (List.eq_nil_of_length_eq_zero h0)) h
 ·exact h0
theorem zgz {n:Nat}:wl n=0 ↔ n=0:=⟨fun h=>zfC.1 (List.eq_nil_of_length_eq_zero h),fun h=>by rw [h,zbE]⟩
theorem run_add64 (x y c:Nat) (hc:c <= 1) (w:World):(callFunc 290 #[.int .u64 (x:Int),.int .u64 (y:Int),.int .u64 (c:Int)]).run Tryz.prog w =
  .ok (.value (.tuple #[.int .u64 (((x+y+c) % B64:Nat):Int),.int .u64 (((x+y+c) / B64:Nat):Int)])) w:=by
 rw [run_callFunc_extern Tryz.func290 (by kernel_rfl) (by kernel_rfl) (by kernel_rfl) (e:=add64Entry) (by kernel_rfl)]
 have:c=0 ∨ c=1:=by omega
 rcases this with rfl | rfl <;> rfl
theorem run_sub64 (x y b:Nat) (hb:b <= 1) (w:World):(callFunc 270 #[.int .u64 (x:Int),.int .u64 (y:Int),.int .u64 (b:Int)]).run Tryz.prog w =
  .ok (.value (.tuple #[.int .u64 (((x+B64 - y - b) % B64:Nat):Int),.int .u64 ((if x < y+b then 1 else 0:Nat):Int)])) w:=by
 rw [run_callFunc_extern Tryz.func270 (by kernel_rfl) (by kernel_rfl) (by kernel_rfl) (e:=sub64Entry) (by kernel_rfl)]
 have:b=0 ∨ b=1:=by omega
 rcases this with rfl | rfl <;> rfl
def sumLo (x y c:Nat):Nat:=(x+y+c) % B64
def sumHi (x y c:Nat):Nat:=(x+y+c) / B64
def subLo (x y b:Nat):Nat:=(x+B64 - y - b) % B64
def subHi (x y b:Nat):Nat:=if x < y+b then 1 else 0
theorem zg0 (x y c:Nat):sumLo x y c < B64:=Nat.mod_lt _ zaE
theorem zg1 (x y c:Nat):subLo x y c < B64:=Nat.mod_lt _ zaE
theorem zhD (x y c:Nat):sumLo x y c+B64 * sumHi x y c=x+y+c:=Nat.mod_add_div _ _
theorem zmM {x y c:Nat} (hx:x < B64) (hy:y < B64) (hc:c <= 1):sumHi x y c <= 1:=by
 have:=zhD x y c
 unfold B64 at *
 have:(18446744073709551616:Nat) * sumHi x y c < 18446744073709551616 * 2:=by omega
 omega
theorem zmP (x y b:Nat):subHi x y b <= 1:=by unfold subHi; split <;> omega
theorem znR {x y b:Nat} (hx:x < B64) (hy:y < B64) (hb:b <= 1):subLo x y b+y+b=x+B64 * subHi x y b:=by
 unfold subLo subHi
 unfold B64 at *
 split <;> omega
theorem add64 (x y c:Nat) (hc:c <= 1) (w:World):(callFunc 290 #[.int .u64 (x:Int),.int .u64 (y:Int),.int .u64 (c:Int)]).run Tryz.prog w =
  .ok (.value (.tuple #[.int .u64 ((sumLo x y c:Nat):Int),.int .u64 ((sumHi x y c:Nat):Int)])) w:=run_add64 x y c hc w
theorem zq2 (x c:Nat) (hc:c <= 1) (w:World):(callFunc 290 #[.int .u64 (x:Int),.int .u64 0,.int .u64 (c:Int)]).run Tryz.prog w =
  .ok (.value (.tuple #[.int .u64 ((sumLo x 0 c:Nat):Int),.int .u64 ((sumHi x 0 c:Nat):Int)])) w:=run_add64 x 0 c hc w
theorem zmz (x y:Nat) (w:World):(callFunc 290 #[.int .u64 (x:Int),.int .u64 (y:Int),.int .u64 0]).run Tryz.prog w =
  .ok (.value (.tuple #[.int .u64 ((sumLo x y 0:Nat):Int),.int .u64 ((sumHi x y 0:Nat):Int)])) w:=run_add64 x y 0 (by omega) w
theorem sub64 (x y b:Nat) (hb:b <= 1) (w:World):(callFunc 270 #[.int .u64 (x:Int),.int .u64 (y:Int),.int .u64 (b:Int)]).run Tryz.prog w =
  .ok (.value (.tuple #[.int .u64 ((subLo x y b:Nat):Int),.int .u64 ((subHi x y b:Nat):Int)])) w:=run_sub64 x y b hb w
theorem zqY (x b:Nat) (hb:b <= 1) (w:World):(callFunc 270 #[.int .u64 (x:Int),.int .u64 0,.int .u64 (b:Int)]).run Tryz.prog w =
  .ok (.value (.tuple #[.int .u64 ((subLo x 0 b:Nat):Int),.int .u64 ((subHi x 0 b:Nat):Int)])) w:=run_sub64 x 0 b hb w
theorem zqX (x y:Nat) (w:World):(callFunc 270 #[.int .u64 (x:Int),.int .u64 (y:Int),.int .u64 0]).run Tryz.prog w =
  .ok (.value (.tuple #[.int .u64 ((subLo x y 0:Nat):Int),.int .u64 ((subHi x y 0:Nat):Int)])) w:=run_sub64 x y 0 (by omega) w
theorem wrapu {n:Nat} (h:n < B64):IntKind.u64.wrap (n:Int)=(n:Int):=by
 unfold B64 at h
 rw [IntKind.wrap_u64]
 omega
theorem zjx {a b:Nat} (h:a+b < B64):IntKind.u64.wrap ((a:Int)+(b:Int))=((a+b:Nat):Int):=by
 rw [<- Int.natCast_add]; exact wrapu h
def sliceLen:Value -> Nat | .slice _ n _=>n | _=>0
theorem zdI {A:Option Addr} {n m c:Nat} (h:n=m):Ending.returned (.slice A n c) = .returned (.slice A m c):=by rw [h]
theorem ze9 (A:Option Addr) (c:Nat) (ws:List Nat) (w:World) (h:WordsAt w A ws) (hc:ws.length <= c) (hm:c <= maxLen):
  Calls Tryz.prog 214 #[.slice A ws.length c] w fun e w'=>e = .returned (.slice A (limbs (val ws)).length c)/\w=w':=by
 unfold maxLen at hm
 go_enter Tryz.func214,Tryz.ntmps214
 go_wp2
 go_loop [0] (fun s=>∃ n:Nat,n <= ws.length/\s = .slice A n c/\val (ws.take n)=val ws) (fun s=>sliceLen s)
 case atStart=>exact ⟨ws.length,zv _,rfl,by rw [List.take_length]⟩
 case round=>
  obtain ⟨n,hn,rfl,hv⟩:=hrel
  have HV:=zc hv
  clear hv
  by_cases h0:0 < n
  ·obtain ⟨ad, x, rfl, _, hcell, hx, HX⟩ := h.get (k := n - 1) (by omega)
   have HL:=zc h.lt
   clear h
   by_cases hz:x=0
   ·subst hz
    go_wp2
    go_round
    case rel=>exact ⟨n - 1,by omega,by go_num,by rw [<- HV.out,<- zdC,<- zaU HX.out,show n - 1+1=n by omega]⟩
    case measure=>simp [sliceLen]; omega
   ·have hb : ((x : Int) == 0) = false := by simp [hz]
    go_wp2
    go_ret
    refine ⟨zdI ?_,rfl⟩
    have e:=zkw HL.out HX.out hz
    rw [show n - 1+1=n by omega,HV.out] at e
    rw [e,List.length_take]; omega
  ·go_wp2
   go_ret
   refine ⟨zdI ?_,rfl⟩
   have hn0:n=0:=by omega
   rw [<- HV.out,hn0]
   simp [val,zao]
theorem zeM {w:World} {A:Option Addr} {c:Nat} {ws:List Nat} (h:WordsAt w A ws) (hc:ws.length <= c) (hm:c <= maxLen):NatIs w (.slice A (limbs (val ws)).length c) (val ws):=
 ⟨A,c,rfl,zo (zc9 ws h.lt).1 hc,hm,by have:=h.take (limbs (val ws)).length; rwa [(zc9 ws h.lt).2] at this⟩
theorem zaK (A:Option Addr) (c:Nat) (ws:List Nat) (w:World) (h:WordsAt w A ws) (hc:ws.length <= c) (hm:c <= maxLen) (n:Nat) (hn:val ws=n):
  Calls Tryz.prog 214 #[.slice A ws.length c] w fun e w'=>∃ v,e = .returned v/\NatIs w v n/\w=w':=by
 refine (ze9 A c ws w h hc hm).mono ?_
 rintro e w' ⟨rfl,rfl⟩
 subst hn
 exact ⟨_,rfl,zeM h hc hm,rfl⟩
theorem zaG {ws:List Nat} {k x:Nat} (h:ws[k]?=some x):val (ws.take (k+1))=val (ws.take k)+B64 ^ k * x:=by
 obtain ⟨hk,_⟩:=zh.1 h
 rw [zaU h,val_append,List.length_take,Nat.min_eq_left (by omega)]
 simp [val]
structure AddSt (w0 w:World) (g:Nat) (P S xs bs:List Nat) (k cy:Nat):Prop where
 ex:∃ ys:List Nat,ys.length=k/\Buf w g (P ++ ys ++ xs.drop k ++ S)/\val ys+B64 ^ k * cy=val (xs.take k)+val (bs.take k)
 cy1:cy <= 1
 only:Only g w0 w
section
variable {w0 w:World} {g:Nat} {P S xs bs:List Nat} {k cy:Nat}
theorem AddSt.start (hw:Buf w g (P ++ xs ++ S)):AddSt w w g P S xs bs 0 0:=⟨⟨[],rfl,by simpa using hw,by simp [val]⟩,by omega,Only.refl _ _⟩
theorem AddSt.head (h:AddSt w0 w g P S xs bs k cy) (hk:k < xs.length):
  ∃ x:Nat,x < B64/\Hid (xs[k]?=some x)/\w.cell? ⟨g,P.length+k,none⟩=some (.int .u64 (x:Int))/\w.frozen? ⟨g,P.length+k,none⟩=false:=by
 obtain ⟨⟨ys,hyl,hb,hv⟩,h1,ho⟩:=h
 have hx:=zg hk
 have e:(P ++ ys ++ xs.drop k ++ S)[P.length+k]?=some xs[k]:=by
  rw [List.append_assoc (P ++ ys),List.getElem?_append_right (by simp; omega),List.getElem?_append_left (by simp; omega),List.getElem?_drop,<- hx]
  congr 1
  simp; omega
 exact ⟨xs[k],hb.lt _ (zk e),hx,hb.cell e,hb.frozen _⟩
theorem AddSt.next (h:AddSt w0 w g P S xs bs k cy) {x y:Nat} (hx:xs[k]?=some x) (hxl:x < B64) (hyl:y < B64) (hy:val (bs.take (k+1))=val (bs.take k)+B64 ^ k * y):
  AddSt w0 (w.setCell ⟨g,P.length+k,none⟩ (.int .u64 ((sumLo x y cy:Nat):Int))) g P S xs bs (k+1) (sumHi x y cy):=by
 obtain ⟨⟨ys,hl,hb,hv⟩,h1,ho⟩:=h
 obtain ⟨hk,_⟩:=zh.1 hx
 refine ⟨⟨ys ++ [sumLo x y cy],by simp [hl],?_,?_⟩,zmM hxl hyl h1,ho.set_ _ _⟩
 ·have := hb.set_ (P.length + k) (sumLo x y cy) (zg0 _ _ _)
  have e:(P ++ ys ++ xs.drop k ++ S).set (P.length+k) (sumLo x y cy)=P ++ (ys ++ [sumLo x y cy]) ++ xs.drop (k+1) ++ S:=by
   rw [List.drop_eq_getElem_cons hk]
   rw [List.append_assoc (P ++ ys),List.set_append_right _ _ (by simp; omega)]
   simp [hl,-List.getElem_cons_drop]
  rwa [e] at this
 ·rw [val_append, hl, zaG hx, hy, Nat.pow_succ]
  simp only [val,Nat.mul_zero,Nat.add_zero]
  have:=zhD x y cy
  have e2:B64 ^ k * B64 * sumHi x y cy+B64 ^ k * sumLo x y cy=B64 ^ k * (x+y+cy):=by rw [<- this,Nat.mul_add,Nat.mul_assoc]; omega
  rw [Nat.mul_add,Nat.mul_add] at e2
  omega
theorem AddSt.done (h:AddSt w0 w g P S xs bs k cy) (hk:k <= xs.length) (hm:bs.length <= k) (hq:k < xs.length -> cy=0):
  cy <= 1/\∃ ys:List Nat,ys.length=xs.length/\Buf w g (P ++ ys ++ S)/\Only g w0 w/\val ys+B64 ^ xs.length * cy=val xs+val bs:=by
 obtain ⟨⟨ys,hl,hb,hv⟩,h1,ho⟩:=h
 refine ⟨h1,ys ++ xs.drop k,by simp [hl]; omega,by simpa [List.append_assoc] using hb,ho,?_⟩
 rw [List.take_of_length_le hm] at hv
 rw [val_append,hl]
 have e:val xs=val (xs.take k)+B64 ^ k * val (xs.drop k):=by
  conv=>lhs; rw [<- List.take_append_drop k xs,val_append]
  rw [List.length_take,Nat.min_eq_left hk]
 rcases Nat.lt_or_ge k xs.length with hlt | hge
 ·have := hq hlt
  subst this
  rw [e]
  simp only [Nat.mul_zero,Nat.add_zero] at hv ⊢
  omega
 ·have : k = xs.length := by omega
  subst this
  rw [e]
  simp only [List.drop_length,val,Nat.mul_zero,Nat.add_zero] at hv ⊢
  omega
end
theorem zmx (g:Nat) (P S xs bs:List Nat) (c d:Nat) (B:Option Addr) (w:World) (hw:Buf w g (P ++ xs ++ S)) (hb:WordsAt w B bs) (hB:∀ ad,B=some ad -> 0 < bs.length -> ad.block ≠ g)
  (hl:bs.length <= xs.length) (hc:xs.length <= c) (hm:c <= maxLen):
  Calls Tryz.prog 260 #[.slice (some ⟨g,P.length,none⟩) xs.length c,.slice B bs.length d] w fun e w'=>
   ∃ (cy:Nat),e = .returned (.int .u64 (cy:Int))/\cy <= 1/\∃ ys:List Nat,ys.length=xs.length/\Buf w' g (P ++ ys ++ S)/\Only g w w'/\val ys+B64 ^ xs.length * cy=val xs+val bs:=by
 unfold maxLen at hm
 go_enter Tryz.func260,Tryz.ntmps260
 go_wp2
 go_loopw [5,10] (fun s i wr=>∃ k cy:Nat,k <= xs.length/\i = .int .i64 k/\s = .int .u64 (cy:Int)/\AddSt w wr g P S xs bs k cy) (fun _ i _=>xs.length - (intOf i).toNat)
 case atStart=>exact ⟨0,0,Nat.zero_le _,rfl,rfl,AddSt.start hw⟩
 case round=>
  obtain ⟨k,cy,hk,rfl,rfl,hst⟩:=hrel
  have hcy:=hst.cy1
  by_cases hkn:k < xs.length
  ·obtain ⟨x, hx, HX, hc0, hf0⟩ := hst.head hkn
   by_cases hkm:k < bs.length
   ·obtain ⟨ad, y, rfl, hadl, hcy', hylt, HYY⟩ := (hst.only.words hb hB).get hkm
    go_wp2_with (simp only [add64 _ _ _ hcy])
    go_roundw
    case rel=>exact ⟨k+1,_,by omega,by go_num,rfl,hst.next HX.out hx hylt (zaG HYY.out)⟩
    case measure=>simp [intOf]; omega
   ·by_cases hz : cy = 0
    ·subst hz
     go_wp2
     go_ret
     exact ⟨0,rfl,hst.done hk (by omega) (fun _=>rfl)⟩
    ·have hz' : ((cy : Int) == 0) = false := by simp [hz]
     go_wp2_with (simp only [zq2 _ _ hcy])
     go_roundw
     case rel=>exact ⟨k+1,_,by omega,by go_num,rfl,hst.next HX.out hx zaE (by rw [List.take_of_length_le (by omega),List.take_of_length_le (by omega)]; simp)⟩
     case measure=>simp [intOf]; omega
  ·go_wp2
   go_ret
   exact ⟨cy,rfl,hst.done hk (by omega) (fun h=>absurd h hkn)⟩
theorem zhq (g o:Nat) (P S xs bs:List Nat) (n c m d:Nat) (B:Option Addr) (w:World) (hP:P.length=o) (hxn:xs.length=n) (hbm:bs.length=m) (hw:Buf w g (P ++ xs ++ S)) (hb:WordsAt w B bs)
  (hB:∀ ad,B=some ad -> 0 < bs.length -> ad.block ≠ g) (hl:m <= n) (hc:n <= c) (hm:c <= maxLen):
  Calls Tryz.prog 260 #[.slice (some ⟨g,o,none⟩) n c,.slice B m d] w fun e w'=>
   ∃ (cy:Nat),e = .returned (.int .u64 (cy:Int))/\cy <= 1/\∃ ys:List Nat,ys.length=n/\Buf w' g (P ++ ys ++ S)/\Only g w w'/\val ys+B64 ^ n * cy=val xs+val bs:=by
 subst hP hxn hbm
 exact zmx g P S xs bs c d B w hw hb hB hl hc hm
theorem zhv:(Tryz.prog.info? 220).map (fun i=>(i.zero,i.size,i.bytes))=some (some (.int .u64 0),1,8):=by kernel_rfl
def MaxW:Nat:=2 ^ 40
def za6 (n:Nat):Obj := .cells (cellsOf (List.replicate n 0)).toArray 220
theorem zc6 (w:World) (n:Nat):Buf (w.alloc (za6 n)) w.heap.size (List.replicate n 0):=
 ⟨fun x hx=>by rw [(List.mem_replicate.1 hx).2]; exact zaE,[],by rw [List.append_nil]; exact heap_alloc_new w _⟩
theorem zew (n:Nat) (hn:n <= 2 ^ 45) (w:World):
  (Instr.makeSlice 96 (.int .i64 (n:Int)) (.int .i64 (n:Int))).run Tryz.prog w = .ok (.slice (some ⟨w.heap.size,0,none⟩) n n) (w.alloc (za6 n)):=by
 obtain ⟨i0,hi0,hz0,hz1,hz2⟩:=info_parts zhv
 rw [run_make (P:=Tryz.prog) w 96 220 i0 (.int .u64 0) Tryz.underlying96 hi0 hz0 .i64 .i64 n n (by omega) (by omega) (by rw [hz2]; omega) (by omega)]
 have e:madeCells (Value.int .u64 0).cells ((n:Int).toNat * i0.size)=(cellsOf (List.replicate n 0)).toArray:=by
  rw [hz1]
  simp only [madeCells,cellsOf,Value.cells,Int.toNat_natCast,Nat.mul_one,List.map_replicate]
  apply Array.ext_getElem?
  intro k
  by_cases hk:k < n
  ·simp [hk,Nat.mod_one]
  ·simp [hk]
 rw [e]
 simp [za6]
theorem ziP (w:World) (g:Nat) (cs:Array Value):Only g w (w.setRow g cs):=
 ⟨rfl,rfl,rfl,by simp [World.setRow],fun k hk=>setRow_other w g k cs hk⟩
theorem zdO (ws:List Nat):∀ v ∈ cellsOf ws,v.oneCell'=true:=by
 intro v hv
 obtain ⟨x,_,rfl⟩:=List.mem_map.1 hv
 rfl
theorem zbU {w:World} {ops:Array Oper} {rest:List Oper} {o:Oper} {a:Act} {Q:Exit -> Act -> World -> Prop} (hgd:o.guard=none) (d s:Operand)
  (ho:o.op = .call { callee := .builtin .copy,args:=#[d,s],argTypes:=#[96,96] })
  (g dl dc sc:Nat) (A:Option Addr) (xs ys:List Nat) (hd:a.eval d = .slice (some ⟨g,0,none⟩) dl dc) (hs:a.eval s = .slice A xs.length sc)
  (hb:Buf w g ys) (hx:WordsAt w A xs) (hl:xs.length <= dl) (hl2:xs.length <= ys.length)
  (h:∀ w',Buf w' g (xs ++ ys.drop xs.length) -> Only g w w' -> wpList Tryz.prog ops Q rest (a.put o.dst (goInt xs.length)) w'):wpList Tryz.prog ops Q (o :: rest) a w:=by
 rcases Nat.eq_zero_or_pos xs.length with h0 | h0
 ·obtain rfl : xs = [] := List.eq_nil_of_length_eq_zero h0
  exact wpList_copy_nothing hgd d s _ _ ho 220 Tryz.underlying96 (by kernel_rfl) _ _ _ _ _ _ hd hs (by simp) (h w (by simpa using hb) (Only.refl _ _))
 ·obtain ⟨ad, _, rfl, _, _, _, _⟩ := hx.get h0
  obtain ⟨hlt,tl,hr⟩:=hb
  have hlen:(cellsOf xs).length=xs.length:=by simp [cellsOf]
  refine wpList_copy_own hgd d s _ _ ho 220 Tryz.underlying96 (by kernel_rfl) g 0 dl dc ad xs.length sc hd hs _ 220 hr (cellsOf xs) (by rw [hlen]; exact (Nat.min_eq_left hl).symm) ?_ (by simp [cellsOf]; omega) (zdO _) ?_
  ·intro j v hv
   simp only [cellsOf,List.getElem?_map,Option.map_eq_some_iff] at hv
   obtain ⟨x,hj,rfl⟩:=hv
   obtain ⟨ad',e,_,hc⟩:=hx.at_ j x hj
   cases e
   exact hc
  ·rw [hlen]
   refine h _ ⟨fun x hx'=>?_,tl,?_⟩ (ziP _ _ _)
   ·rcases List.mem_append.1 hx' with h1 | h1
    ·exact hx.lt x h1
    ·exact hlt x (List.mem_of_mem_drop h1)
   ·rw [setRow_heap w g _ _ 220 _ hr]
    simp only [List.take_zero,List.nil_append,Nat.zero_add]
    congr 2
    simp [cellsOf,List.drop_append_of_le_length,hl2,List.append_assoc]
theorem zmw {w:World} {g:Nat} {ys:List Nat} {cy n:Nat} (hl:ys.length=n) (hb:Buf w g ([] ++ ys ++ [0])) (hc:cy <= 1):
  Buf (w.setCell ⟨g,n,none⟩ (.int .u64 (cy:Int))) g (ys ++ [cy]):=by
 have:=hb.set_ n cy (by unfold B64; omega)
 have e:([] ++ ys ++ [0]).set n cy=ys ++ [cy]:=by subst hl; simp
 rwa [e] at this
theorem zq8 (A B:Option Addr) (c d:Nat) (xs ys:List Nat) (w:World) (hx:WordsAt w A xs) (hy:WordsAt w B ys) (hl:ys.length <= xs.length) (hn:xs.length <= MaxW):
  Calls Tryz.prog 228 #[.slice A xs.length c,.slice B ys.length d] w fun e w'=>
   ∃ v,e = .returned v/\NatIs w' v (val xs+val ys)/\Below w.heap.size w w':=by
 unfold MaxW at hn
 have hmk:∀ w:World,(Instr.makeSlice 96 (.int .i64 ((xs.length:Int)+1)) (.int .i64 ((xs.length:Int)+1))).run Tryz.prog w = .ok (.slice (some ⟨w.heap.size,0,none⟩) (xs.length+1) (xs.length+1)) (w.alloc (za6 (xs.length+1))):=zew (xs.length+1) (by omega)
 have hyb:=hy.ne_ (zv _)
 go_enter Tryz.func228,Tryz.ntmps228
 go_wp2_with (with_reducible refine zbU rfl (.tmp 17) (.tmp 18) rfl w.heap.size _ _ _ A xs (List.replicate (xs.length+1) 0) rfl rfl (zc6 w _) (hx.alloc _) (by omega) (by simp) ?_; intro w1 hb1 ho1)
 have hb1':Buf w1 w.heap.size ([] ++ xs ++ [0]):=by simpa using hb1
 have hy1:WordsAt w1 B ys:=ho1.words (hy.alloc _) hyb
 refine (zhq w.heap.size 0 [] [0] xs ys _ _ _ _ B w1 rfl rfl rfl hb1' hy1 hyb hl (by omega) (by unfold maxLen; omega)).mono ?_
 rintro e w2 ⟨cy,rfl,hcy,zs,hzl,hb2,ho2,hv⟩
 have HV:=zc hv
 have HZ:=zc hzl
 clear hv hzl
 have hz0:w2.cell? ⟨w.heap.size,xs.length,none⟩=some (.int .u64 0):=hb2.cell (i:=xs.length) (x:=0) (by simp [HZ.out])
 have hz1:=hb2.frozen xs.length
 go_wp2_with fail
 have hb3:=zmw HZ.out hb2 hcy
 have e3:val (zs ++ [cy])=val xs+val ys:=by rw [<- HV.out,val_append,HZ.out]; simp [val]
 have hl3:(zs ++ [cy]).length=xs.length+1:=by simp [HZ.out]
 have hw3:=hb3.words 0 (xs.length+1)
 rw [List.drop_zero,List.take_of_length_le (by rw [hl3]; exact zv _)] at hw3
 have c3:=zaK (some ⟨w.heap.size,0,none⟩) (xs.length+1) (zs ++ [cy]) _ hw3 (by rw [hl3]; exact zv _) (by unfold maxLen; omega) _ e3
 rw [hl3] at c3
 refine c3.mono ?_
 rintro e w3 ⟨v,rfl,hv,rfl⟩
 go_wp2_with fail
 go_ret
 exact ⟨v,rfl,hv,(((Below.refl _ _).alloc (zv _) _).trans ((ho1.trans (ho2.set_ _ _)).below (zv _)))⟩
theorem add_lt (A B:Option Addr) (c d:Nat) (xs ys:List Nat) (w:World) (hx:WordsAt w A xs) (hy:WordsAt w B ys) (hl:ys.length < xs.length) (hn:xs.length <= MaxW):
  Calls Tryz.prog 228 #[.slice B ys.length d,.slice A xs.length c] w fun e w'=>
   ∃ v,e = .returned v/\NatIs w' v (val xs+val ys)/\Below w.heap.size w w':=by
 unfold MaxW at hn
 have hmk:∀ w:World,(Instr.makeSlice 96 (.int .i64 ((xs.length:Int)+1)) (.int .i64 ((xs.length:Int)+1))).run Tryz.prog w = .ok (.slice (some ⟨w.heap.size,0,none⟩) (xs.length+1) (xs.length+1)) (w.alloc (za6 (xs.length+1))):=zew (xs.length+1) (by omega)
 have hyb:=hy.ne_ (zv _)
 go_enter Tryz.func228,Tryz.ntmps228
 go_wp2_with (with_reducible refine zbU rfl (.tmp 17) (.tmp 18) rfl w.heap.size _ _ _ A xs (List.replicate (xs.length+1) 0) rfl rfl (zc6 w _) (hx.alloc _) (by omega) (by simp) ?_; intro w1 hb1 ho1)
 have hb1':Buf w1 w.heap.size ([] ++ xs ++ [0]):=by simpa using hb1
 have hy1:WordsAt w1 B ys:=ho1.words (hy.alloc _) hyb
 refine (zhq w.heap.size 0 [] [0] xs ys _ _ _ _ B w1 rfl rfl rfl hb1' hy1 hyb (by omega) (by omega) (by unfold maxLen; omega)).mono ?_
 rintro e w2 ⟨cy,rfl,hcy,zs,hzl,hb2,ho2,hv⟩
 have HV:=zc hv
 have HZ:=zc hzl
 clear hv hzl
 have hz0:w2.cell? ⟨w.heap.size,xs.length,none⟩=some (.int .u64 0):=hb2.cell (i:=xs.length) (x:=0) (by simp [HZ.out])
 have hz1:=hb2.frozen xs.length
 go_wp2_with fail
 have hb3:=zmw HZ.out hb2 hcy
 have e3:val (zs ++ [cy])=val xs+val ys:=by rw [<- HV.out,val_append,HZ.out]; simp [val]
 have hl3:(zs ++ [cy]).length=xs.length+1:=by simp [HZ.out]
 have hw3:=hb3.words 0 (xs.length+1)
 rw [List.drop_zero,List.take_of_length_le (by rw [hl3]; exact zv _)] at hw3
 have c3:=zaK (some ⟨w.heap.size,0,none⟩) (xs.length+1) (zs ++ [cy]) _ hw3 (by rw [hl3]; exact zv _) (by unfold maxLen; omega) _ e3
 rw [hl3] at c3
 refine c3.mono ?_
 rintro e w3 ⟨v,rfl,hv,rfl⟩
 go_wp2_with fail
 go_ret
 exact ⟨v,rfl,hv,(((Below.refl _ _).alloc (zv _) _).trans ((ho1.trans (ho2.set_ _ _)).below (zv _)))⟩
theorem zi4 (v1 v2:Value) (a b:Nat) (w:World) (h1:NatIs w v1 a) (h2:NatIs w v2 b) (ha:wl a <= MaxW) (hb:wl b <= MaxW):
  Calls Tryz.prog 228 #[v1,v2] w fun e w'=>∃ v,e = .returned v/\NatIs w' v (a+b)/\Below w.heap.size w w':=by
 obtain ⟨A,c,rfl,h11,h12,h13⟩:=h1
 obtain ⟨B,d,rfl,h21,h22,h23⟩:=h2
 by_cases hl:(limbs b).length <= (limbs a).length
 ·have := zq8 A B c d _ _ w h13 h23 hl ha
  rwa [zan,zan] at this
 ·have := add_lt B A d c _ _ w h23 h13 (by omega) hb
  rw [zan,zan] at this
  rwa [Nat.add_comm a b]
def mulHi (x y:Nat):Nat:=x * y / B64
def mulLo (x y:Nat):Nat:=x * y % B64
theorem znX (x y:Nat):mulLo x y+B64 * mulHi x y=x * y:=Nat.mod_add_div _ _
theorem mul64 (x y:Nat) (hx:x < B64) (hy:y < B64) (w:World):
  Calls Tryz.prog 289 #[.int .u64 (x:Int),.int .u64 (y:Int)] w fun e w'=>e = .returned (.tuple #[.int .u64 ((mulHi x y:Nat):Int),.int .u64 ((mulLo x y:Nat):Int)])/\w=w':=by
 refine (Tryz.bits_Mul64 x y hx hy w).mono ?_
 rintro e w' ⟨rfl,rfl⟩
 exact ⟨rfl,rfl⟩
def apLo (x y f c:Nat):Nat:=sumLo (sumLo (mulLo y f) x 0) c 0
def apHi (x y f c:Nat):Nat:=mulHi y f+sumHi (mulLo y f) x 0+sumHi (sumLo (mulLo y f) x 0) c 0
theorem ap_eq (x y f c:Nat):apLo x y f c+B64 * apHi x y f c=x+y * f+c:=by
 unfold apLo apHi
 have h1:=znX y f
 have h2:=zhD (mulLo y f) x 0
 have h3:=zhD (sumLo (mulLo y f) x 0) c 0
 rw [Nat.mul_add,Nat.mul_add]
 omega
theorem zjv {x y f c:Nat} (hx:x < B64) (hy:y < B64) (hf:f < B64) (hc:c < B64):apHi x y f c < B64:=by
 have h:=ap_eq x y f c
 have h1:y * f <= (B64 - 1) * (B64 - 1):=Nat.mul_le_mul (by omega) (by omega)
 have h2:B64 * apHi x y f c < B64 * B64:=by
  have e:(B64 - 1) * (B64 - 1)+(B64 - 1)+(B64 - 1) < B64 * B64:=by unfold B64; decide
  omega
 exact Nat.lt_of_mul_lt_mul_left h2
theorem znH {x y f:Nat} (hx:x < B64) (hy:y < B64) (hf:f < B64):mulHi y f+sumHi (mulLo y f) x 0 < B64:=by
 have:=zjv (c:=0) hx hy hf zaE
 unfold apHi at this
 omega
structure ProdSt (w0 w:World) (g:Nat) (P S xs bs:List Nat) (f k cy:Nat):Prop where
 ex:∃ ys:List Nat,ys.length=k/\Buf w g (P ++ ys ++ xs.drop k ++ S)/\val ys+B64 ^ k * cy=val (xs.take k)+val (bs.take k) * f
 cyl:cy < B64
 only:Only g w0 w
section
variable {w0 w:World} {g:Nat} {P S xs bs:List Nat} {f k cy:Nat}
theorem zhn {ys:List Nat} (hb:Buf w g (P ++ ys ++ xs.drop k ++ S)) (hyl:ys.length=k) (hk:k < xs.length):
  ∃ x:Nat,x < B64/\Hid (xs[k]?=some x)/\w.cell? ⟨g,P.length+k,none⟩=some (.int .u64 (x:Int))/\w.frozen? ⟨g,P.length+k,none⟩=false:=by
 have hx:=zg hk
 have e:(P ++ ys ++ xs.drop k ++ S)[P.length+k]?=some xs[k]:=by
  rw [List.append_assoc (P ++ ys),List.getElem?_append_right (by simp; omega),List.getElem?_append_left (by simp; omega),List.getElem?_drop,<- hx]
  congr 1
  simp; omega
 exact ⟨xs[k],hb.lt _ (zk e),hx,hb.cell e,hb.frozen _⟩
theorem ze1 {ys:List Nat} {s:Nat} (hb:Buf w g (P ++ ys ++ xs.drop k ++ S)) (hl:ys.length=k) (hk:k < xs.length) (hs:s < B64):
  Buf (w.setCell ⟨g,P.length+k,none⟩ (.int .u64 (s:Int))) g (P ++ (ys ++ [s]) ++ xs.drop (k+1) ++ S):=by
 have:=hb.set_ (P.length+k) s hs
 have e:(P ++ ys ++ xs.drop k ++ S).set (P.length+k) s=P ++ (ys ++ [s]) ++ xs.drop (k+1) ++ S:=by
  rw [List.drop_eq_getElem_cons hk]
  rw [List.append_assoc (P ++ ys),List.set_append_right _ _ (by simp; omega)]
  simp [hl,-List.getElem_cons_drop]
 rwa [e] at this
theorem ProdSt.start (hw:Buf w g (P ++ xs ++ S)):ProdSt w w g P S xs bs f 0 0:=⟨⟨[],rfl,by simpa using hw,by simp [val]⟩,zaE,Only.refl _ _⟩
theorem ProdSt.head (h:ProdSt w0 w g P S xs bs f k cy) (hk:k < xs.length):
  ∃ x:Nat,x < B64/\Hid (xs[k]?=some x)/\w.cell? ⟨g,P.length+k,none⟩=some (.int .u64 (x:Int))/\w.frozen? ⟨g,P.length+k,none⟩=false:=by
 obtain ⟨⟨ys,hyl,hb,hv⟩,h1,ho⟩:=h
 exact zhn hb hyl hk
theorem ProdSt.next (h:ProdSt w0 w g P S xs bs f k cy) {x y:Nat} (hx:xs[k]?=some x) (hxl:x < B64) (hy:bs[k]?=some y) (hyl:y < B64) (hf:f < B64):
  ProdSt w0 (w.setCell ⟨g,P.length+k,none⟩ (.int .u64 ((apLo x y f cy:Nat):Int))) g P S xs bs f (k+1) (apHi x y f cy):=by
 obtain ⟨⟨ys,hl,hb,hv⟩,h1,ho⟩:=h
 obtain ⟨hk,_⟩:=zh.1 hx
 refine ⟨⟨ys ++ [apLo x y f cy],by simp [hl],ze1 hb hl hk (zg0 _ _ _),?_⟩,zjv hxl hyl hf h1,ho.set_ _ _⟩
 rw [val_append,hl,zaG hx,zaG hy,Nat.pow_succ]
 simp only [val,Nat.mul_zero,Nat.add_zero]
 have:=ap_eq x y f cy
 have e2:B64 ^ k * B64 * apHi x y f cy+B64 ^ k * apLo x y f cy=B64 ^ k * (x+y * f+cy):=by rw [<- this,Nat.mul_add,Nat.mul_assoc]; omega
 rw [Nat.mul_add,Nat.mul_add] at e2
 rw [Nat.add_mul,Nat.mul_assoc (B64 ^ k) y f]
 rw [Nat.mul_assoc (B64 ^ k) B64] at e2 ⊢
 omega
end
theorem zgx (g:Nat) (P S xs bs:List Nat) (f c d:Nat) (B:Option Addr) (w:World) (hw:Buf w g (P ++ xs ++ S)) (hb:WordsAt w B bs) (hB:∀ ad,B=some ad -> 0 < bs.length -> ad.block ≠ g)
  (hl:xs.length=bs.length) (hc:xs.length <= c) (hm:c <= maxLen) (hf:f < B64):
  Calls Tryz.prog 259 #[.slice (some ⟨g,P.length,none⟩) xs.length c,.slice B bs.length d,.int .u64 (f:Int)] w fun e w'=>
   ∃ (cy:Nat),e = .returned (.int .u64 (cy:Int))/\cy < B64/\∃ ys:List Nat,ys.length=xs.length/\Buf w' g (P ++ ys ++ S)/\Only g w w'/\val ys+B64 ^ xs.length * cy=val xs+val bs * f:=by
 unfold maxLen at hm
 have HL:=zc hl
 have hl1:xs.length <= bs.length:=by omega
 have hl2:bs.length <= xs.length:=by omega
 clear hl
 go_enter Tryz.func259,Tryz.ntmps259
 go_wp2
 go_loopw [7,15] (fun s i wr=>∃ k cy:Nat,k <= xs.length/\i = .int .i64 k/\s = .int .u64 (cy:Int)/\ProdSt w wr g P S xs bs f k cy) (fun _ i _=>xs.length - (intOf i).toNat)
 case atStart=>exact ⟨0,0,Nat.zero_le _,rfl,rfl,ProdSt.start hw⟩
 case round=>
  obtain ⟨k,cy,hk,rfl,rfl,hst⟩:=hrel
  have hcy:=hst.cyl
  by_cases hkn:k < xs.length
  ·obtain ⟨x, hx, HX, hc0, hf0⟩ := hst.head hkn
   have hkm:k < bs.length:=by omega
   obtain ⟨ad,y,rfl,hadl,hcy',hylt,HYY⟩:=(hst.only.words hb hB).get hkm
   go_wp2_with fail
   refine (mul64 y f hylt hf _).mono ?_
   rintro e w' ⟨rfl,rfl⟩
   go_wp2_with (simp only [zmz])
   have hw2:IntKind.u64.wrap (IntKind.u64.wrap ((mulHi y f:Nat)+(sumHi (mulLo y f) x 0:Nat):Int)+(sumHi (sumLo (mulLo y f) x 0) cy 0:Nat))=((apHi x y f cy:Nat):Int):=by
    rw [zjx (znH hx hylt hf)]
    exact zjx (zjv hx hylt hf hcy)
   go_roundw
   case rel=>exact ⟨k+1,apHi x y f cy,by omega,by go_num,by rw [hw2],hst.next HX.out hx HYY.out hylt hf⟩
   case measure=>simp [intOf]; omega
  ·go_wp2
   go_ret
   obtain ⟨⟨ys,h1,h2,h3⟩,h4,h5⟩:=hst
   obtain rfl:k=xs.length:=by omega
   rw [List.drop_length,List.append_nil] at h2
   rw [List.take_length,List.take_of_length_le (by omega)] at h3
   exact ⟨cy,rfl,hcy,ys,h1,h2,h5,h3⟩
def spLo (x y f b:Nat):Nat:=subLo x (sumLo (mulLo y f) b 0) 0
def spHi (x y f b:Nat):Nat:=mulHi y f+sumHi (mulLo y f) b 0+subHi x (sumLo (mulLo y f) b 0) 0
theorem sp_eq {x y f b:Nat} (hx:x < B64):spLo x y f b+(y * f+b)=x+B64 * spHi x y f b:=by
 unfold spLo spHi
 have h1:=znX y f
 have h2:=zhD (mulLo y f) b 0
 have h3:=znR (y:=sumLo (mulLo y f) b 0) hx (zg0 _ _ _) (b:=0) (by omega)
 rw [Nat.mul_add,Nat.mul_add]
 omega
theorem ziN {x y f b:Nat} (hx:x < B64) (hy:y < B64) (hf:f < B64) (hb:b < B64):spHi x y f b < B64:=by
 have h:=sp_eq (y:=y) (f:=f) (b:=b) hx
 have hl:spLo x y f b < B64:=zg1 _ _ _
 have h1:y * f <= (B64 - 1) * (B64 - 1):=Nat.mul_le_mul (by omega) (by omega)
 have h2:B64 * spHi x y f b < B64 * B64:=by
  have e:(B64 - 1) * (B64 - 1)+(B64 - 1)+(B64 - 1) < B64 * B64:=by unfold B64; decide
  omega
 exact Nat.lt_of_mul_lt_mul_left h2
theorem zmS {x y f b:Nat} (hx:x < B64) (hy:y < B64) (hf:f < B64) (hb:b < B64):mulHi y f+sumHi (mulLo y f) b 0 < B64:=by
 have:=ziN hx hy hf hb
 unfold spHi at this
 omega
theorem zbV (x:Nat):val [x]=x:=by simp [val]
theorem ziG {X b vy vx vb f lo hi x y c:Nat} (h1:vy+vb * f=vx+X * c) (h2:lo+(y * f+c)=x+b * hi):vy+X * lo+(vb+X * y) * f=vx+X * x+X * b * hi:=by
 have e:X * (lo+(y * f+c))=X * (x+b * hi):=by rw [h2]
 rw [Nat.mul_add,Nat.mul_add,Nat.mul_add] at e
 rw [Nat.add_mul,Nat.mul_assoc X y f,Nat.mul_assoc X b hi]
 omega
theorem zmu {X Y vp vx vy vt vb x cy:Nat} (hv:vp+X * vx=vt * vb) (hy:vy+Y * cy=vx+vb * x):vp+X * vy+X * Y * cy=(vt+X * x) * vb:=by
 have e:X * (vy+Y * cy)=X * (vx+vb * x):=by rw [hy]
 rw [Nat.mul_add,Nat.mul_add] at e
 rw [Nat.add_mul,<- hv,Nat.mul_assoc X Y cy,Nat.mul_assoc X x vb,zw x vb]
 omega
structure SubSt (w0 w:World) (g:Nat) (P S xs bs:List Nat) (f k cy:Nat):Prop where
 ex:∃ ys:List Nat,ys.length=k/\Buf w g (P ++ ys ++ xs.drop k ++ S)/\val ys+val (bs.take k) * f=val (xs.take k)+B64 ^ k * cy
 cyl:cy < B64
 only:Only g w0 w
section
variable {w0 w:World} {g:Nat} {P S xs bs:List Nat} {f k cy:Nat}
theorem SubSt.start (hw:Buf w g (P ++ xs ++ S)):SubSt w w g P S xs bs f 0 0:=⟨⟨[],rfl,by simpa using hw,by simp [val]⟩,zaE,Only.refl _ _⟩
theorem SubSt.head (h:SubSt w0 w g P S xs bs f k cy) (hk:k < xs.length):
  ∃ x:Nat,x < B64/\Hid (xs[k]?=some x)/\w.cell? ⟨g,P.length+k,none⟩=some (.int .u64 (x:Int))/\w.frozen? ⟨g,P.length+k,none⟩=false:=by
 obtain ⟨⟨ys,hyl,hb,hv⟩,h1,ho⟩:=h
 exact zhn hb hyl hk
theorem SubSt.next (h:SubSt w0 w g P S xs bs f k cy) {x y:Nat} (hx:xs[k]?=some x) (hxl:x < B64) (hy:bs[k]?=some y) (hyl:y < B64) (hf:f < B64):
  SubSt w0 (w.setCell ⟨g,P.length+k,none⟩ (.int .u64 ((spLo x y f cy:Nat):Int))) g P S xs bs f (k+1) (spHi x y f cy):=by
 obtain ⟨⟨ys,hl,hb,hv⟩,h1,ho⟩:=h
 obtain ⟨hk,_⟩:=zh.1 hx
 refine ⟨⟨ys ++ [spLo x y f cy],by simp [hl],ze1 hb hl hk (zg1 _ _ _),?_⟩,ziN hxl hyl hf h1,ho.set_ _ _⟩
 rw [val_append,hl,zaG hx,zaG hy,Nat.pow_succ,zbV]
 exact ziG hv (sp_eq hxl)
end
theorem zgr (g o:Nat) (P S xs bs:List Nat) (n m f c d:Nat) (B:Option Addr) (w:World) (hP:P.length=o) (hxn:xs.length=n) (hbm:bs.length=m) (hw:Buf w g (P ++ xs ++ S)) (hb:WordsAt w B bs) (hB:∀ ad,B=some ad -> 0 < bs.length -> ad.block ≠ g)
  (hl:n=m) (hc:n <= c) (hm:c <= maxLen) (hf:f < B64):
  Calls Tryz.prog 306 #[.slice (some ⟨g,o,none⟩) n c,.slice B m d,.int .u64 (f:Int)] w fun e w'=>
   ∃ (cy:Nat),e = .returned (.int .u64 (cy:Int))/\cy < B64/\∃ ys:List Nat,ys.length=n/\Buf w' g (P ++ ys ++ S)/\Only g w w'/\val ys+val bs * f=val xs+B64 ^ n * cy:=by
 subst hP hxn hbm
 unfold maxLen at hm
 have HL:=zc hl
 have hl1:xs.length <= bs.length:=by omega
 have hl2:bs.length <= xs.length:=by omega
 clear hl
 go_enter Tryz.func306,Tryz.ntmps306
 go_wp2
 go_loopw [7,15] (fun s i wr=>∃ k cy:Nat,k <= xs.length/\i = .int .i64 k/\s = .int .u64 (cy:Int)/\SubSt w wr g P S xs bs f k cy) (fun _ i _=>xs.length - (intOf i).toNat)
 case atStart=>exact ⟨0,0,Nat.zero_le _,rfl,rfl,SubSt.start hw⟩
 case round=>
  obtain ⟨k,cy,hk,rfl,rfl,hst⟩:=hrel
  have hcy:=hst.cyl
  by_cases hkn:k < xs.length
  ·obtain ⟨x, hx, HX, hc0, hf0⟩ := hst.head hkn
   have hkm:k < bs.length:=by omega
   obtain ⟨ad,y,rfl,hadl,hcy',hylt,HYY⟩:=(hst.only.words hb hB).get hkm
   go_wp2_with fail
   refine (mul64 y f hylt hf _).mono ?_
   rintro e w' ⟨rfl,rfl⟩
   go_wp2_with (first | simp only [zmz] | simp only [zqX])
   have hw2:IntKind.u64.wrap (IntKind.u64.wrap ((mulHi y f:Nat)+(sumHi (mulLo y f) cy 0:Nat):Int)+(subHi x (sumLo (mulLo y f) cy 0) 0:Nat))=((spHi x y f cy:Nat):Int):=by
    rw [zjx (zmS hx hylt hf hcy)]
    exact zjx (ziN hx hylt hf hcy)
   go_roundw
   case rel=>exact ⟨k+1,spHi x y f cy,by omega,by go_num,by rw [hw2],hst.next HX.out hx HYY.out hylt hf⟩
   case measure=>simp [intOf]; omega
  ·go_wp2
   go_ret
   obtain ⟨⟨ys,h1,h2,h3⟩,h4,h5⟩:=hst
   obtain rfl:k=xs.length:=by omega
   rw [List.drop_length,List.append_nil] at h2
   rw [List.take_length,List.take_of_length_le (by omega)] at h3
   exact ⟨cy,rfl,hcy,ys,h1,h2,h5,h3⟩
theorem zhr (g o:Nat) (P S xs bs:List Nat) (n m f c d:Nat) (B:Option Addr) (w:World) (hP:P.length=o) (hxn:xs.length=n) (hbm:bs.length=m) (hw:Buf w g (P ++ xs ++ S)) (hb:WordsAt w B bs) (hB:∀ ad,B=some ad -> 0 < bs.length -> ad.block ≠ g)
  (hl:n=m) (hc:n <= c) (hm:c <= maxLen) (hf:f < B64):
  Calls Tryz.prog 259 #[.slice (some ⟨g,o,none⟩) n c,.slice B m d,.int .u64 (f:Int)] w fun e w'=>
   ∃ (cy:Nat),e = .returned (.int .u64 (cy:Int))/\cy < B64/\∃ ys:List Nat,ys.length=n/\Buf w' g (P ++ ys ++ S)/\Only g w w'/\val ys+B64 ^ n * cy=val xs+val bs * f:=by
 subst hP hxn hbm
 exact zgx g P S xs bs f c d B w hw hb hB hl hc hm hf
structure MulSt (w0 w:World) (g:Nat) (us bs:List Nat) (i:Nat):Prop where
 ex:∃ qs:List Nat,qs.length=i+bs.length/\Buf w g (qs ++ List.replicate (us.length - i) 0)/\val qs=val (us.take i) * val bs
 below:Below w0.heap.size w0 w
 new:w0.heap.size <= g
section
variable {w0 w:World} {g:Nat} {us bs:List Nat} {i:Nat}
theorem MulSt.parts (h:MulSt w0 w g us bs i) (hi:i < us.length):
  ∃ P xs:List Nat,P.length=i/\xs.length=bs.length/\Buf w g (P ++ xs ++ (0 :: List.replicate (us.length - (i+1)) 0))/\val P+B64 ^ i * val xs=val (us.take i) * val bs:=by
 obtain ⟨⟨qs,hl,hb,hv⟩,_,_⟩:=h
 refine ⟨qs.take i,qs.drop i,by simp; omega,by simp [hl],?_,?_⟩
 ·rw [List.take_append_drop, show us.length - i = (us.length - (i + 1)) + 1 by omega, List.replicate_succ] at *
  exact hb
 ·rw [<- hv]
  conv=>rhs; rw [<- List.take_append_drop i qs,val_append]
  rw [List.length_take,Nat.min_eq_left (by omega)]
theorem MulSt.next {P xs ys:List Nat} {x cy:Nat} {w1 w2:World} (h:MulSt w0 w g us bs i) (hx:us[i]?=some x) (hPl:P.length=i) (hyl:ys.length=bs.length)
  (hv:val P+B64 ^ i * val xs=val (us.take i) * val bs) (hb:Buf w1 g (P ++ ys ++ (0 :: List.replicate (us.length - (i+1)) 0))) (ho:Only g w w1) (hc:cy < B64)
  (hy:val ys+B64 ^ bs.length * cy=val xs+val bs * x) (h2:w2=w1.setCell ⟨g,i+bs.length,none⟩ (.int .u64 (cy:Int))):MulSt w0 w2 g us bs (i+1):=by
 subst h2
 refine ⟨⟨P ++ ys ++ [cy],by simp [hPl,hyl]; omega,?_,?_⟩,h.below.trans ((ho.set_ _ _).below h.new),h.new⟩
 ·have := hb.set_ (i + bs.length) cy hc
  rw [List.set_append_right _ _ (by simp [hPl,hyl])] at this
  simpa [hPl,hyl] using this
 ·rw [zaG hx, val_append, val_append, List.length_append, hPl, hyl, Nat.pow_add, zbV]
  exact zmu hv hy
end
theorem zhU (A B:Option Addr) (c d:Nat) (us bs:List Nat) (w:World) (ha:WordsAt w A us) (hb:WordsAt w B bs) (hn:us.length <= MaxW) (hm:bs.length <= MaxW):
  Calls Tryz.prog 227 #[.slice A us.length c,.slice B bs.length d] w fun e w'=>
   ∃ v,e = .returned v/\NatIs w' v (val us * val bs)/\Below w.heap.size w w':=by
 unfold MaxW at hn hm
 have hmk:∀ w:World,(Instr.makeSlice 96 (.int .i64 ((us.length:Int)+(bs.length:Int))) (.int .i64 ((us.length:Int)+(bs.length:Int)))).run Tryz.prog w = .ok (.slice (some ⟨w.heap.size,0,none⟩) (us.length+bs.length) (us.length+bs.length)) (w.alloc (za6 (us.length+bs.length))):=zew (us.length+bs.length) (by omega)
 have hbne:=hb.ne_ (zv _)
 go_enter Tryz.func227,Tryz.ntmps227
 go_wp2
 go_loopw [16] (fun s wr=>∃ i:Nat,i <= us.length/\s = .int .i64 i/\MulSt w wr w.heap.size us bs i) (fun s _=>us.length - (intOf s).toNat)
 case atStart=>
  refine ⟨0,Nat.zero_le _,rfl,⟨List.replicate bs.length 0,by simp,?_,?_⟩,(Below.refl _ _).alloc (zv _) _,zv _⟩
  ·have := zc6 w (us.length + bs.length)
   rw [Nat.add_comm,<- List.replicate_append_replicate] at this
   simpa [Nat.add_comm] using this
  ·have : ∀ n, val (List.replicate n 0) = 0 := fun n => by induction n with | zero => rfl | succ n ih => simp [List.replicate_succ, val, ih]
   simp [this,val]
 case round=>
  obtain ⟨i,hi,rfl,hst⟩:=hrel
  by_cases hin:i < us.length
  ·obtain ⟨ad, x, rfl, _, hcx, hxl, HX⟩ := (ha.below hst.below).get hin
   obtain ⟨P,xs,hP,hxs,hbuf,hv⟩:=hst.parts hin
   have HP:=zc hP; have HXS:=zc hxs; have HV:=zc hv
   clear hP hxs hv
   have hb':=hb.below hst.below
   go_wp2_with fail
   refine (zhr w.heap.size i P (0 :: List.replicate (us.length - (i+1)) 0) xs bs _ _ x _ _ B _ HP.out HXS.out rfl hbuf hb' hbne rfl (by omega) (by unfold maxLen; omega) hxl).mono ?_
   rintro e w1 ⟨cy,rfl,hcy,ys,hyl,hb1,ho1,hv1⟩
   have HYL:=zc hyl; have HV1:=zc hv1
   clear hyl hv1
   have hz0:w1.cell? ⟨w.heap.size,i+bs.length,none⟩=some (.int .u64 0):=hb1.cell (i:=i+bs.length) (x:=0) (by
    rw [List.getElem?_append_right (by simp [HP.out,HYL.out])]; simp [HP.out,HYL.out])
   have hz1:=hb1.frozen (i+bs.length)
   go_wp2_with fail
   go_roundw
   case rel=>exact ⟨i+1,by omega,by go_num,hst.next HX.out HP.out HYL.out HV.out hb1 ho1 hcy HV1.out rfl⟩
   case measure=>simp [intOf]; omega
  ·obtain ⟨⟨qs, hl, hb1, hv⟩, hbe, _⟩ := hst
   have he:i=us.length:=by omega
   have e1:val qs=val us * val bs:=by rw [hv,he,List.take_length]
   have e2:Buf wr w.heap.size qs:=by rw [he,Nat.sub_self] at hb1; simpa using hb1
   have hlq:qs.length=us.length+bs.length:=by rw [hl,he]
   have hw3:=e2.words 0 qs.length
   rw [List.drop_zero,List.take_length] at hw3
   have c3:=zaK (some ⟨w.heap.size,0,none⟩) (us.length+bs.length) qs _ hw3 (by rw [hlq]; exact zv _) (by unfold maxLen; omega) _ e1
   rw [hlq] at c3
   clear hv e1 hl hlq hw3
   go_wp2_with fail
   refine c3.mono ?_
   rintro e w3 ⟨v,rfl,hv,rfl⟩
   go_wp2_with fail
   go_ret
   exact ⟨v,rfl,hv,hbe⟩
theorem zq1 (v1 v2:Value) (a b:Nat) (w:World) (h1:NatIs w v1 a) (h2:NatIs w v2 b) (ha:wl a <= MaxW) (hb:wl b <= MaxW):
  Calls Tryz.prog 227 #[v1,v2] w fun e w'=>∃ v,e = .returned v/\NatIs w' v (a * b)/\Below w.heap.size w w':=by
 obtain ⟨A,c,rfl,h11,h12,h13⟩:=h1
 obtain ⟨B,d,rfl,h21,h22,h23⟩:=h2
 have:=zhU A B c d _ _ w h13 h23 ha hb
 rwa [zan,zan] at this
def cmpN (a b:Nat):Int:=if a < b then -1 else if a=b then 0 else 1
theorem zb7 {a b:Nat} (h:a < b):cmpN a b = -1:=by unfold cmpN; rw [if_pos h]
theorem zbS (a:Nat):cmpN a a=0:=by unfold cmpN; simp
theorem zbR {a b:Nat} (h:b < a):cmpN a b=1:=by unfold cmpN; rw [if_neg (by omega),if_neg (by omega)]
theorem zmn {a b:Nat} {x y:Nat} (h1:x < y -> a < b) (h2:y < x -> b < a) (h3:x=y -> a=b):cmpN x y=cmpN a b:=by
 rcases Nat.lt_trichotomy x y with h | h | h
 ·rw [zb7 h,zb7 (h1 h)]
 ·rw [h3 h,h,zbS,zbS]
 ·rw [zbR h,zbR (h2 h)]
theorem zfF (x:Int) (w:World):Calls Tryz.prog 295 #[.int .u64 x] w fun e w'=>e = .returned (.bool false)/\w=w':=by
 go_enter Tryz.func295,Tryz.ntmps295
 go_wp2
 go_ret
 simp
theorem zbF {a b:Int} (h:a=b):Ending.returned (.int .i64 a) = .returned (.int .i64 b):=by rw [h]
theorem zjo (x y:Nat) (w:World):Calls Tryz.prog 268 #[.int .u64 (x:Int),.int .u64 (y:Int)] w fun e w'=>e = .returned (.int .i64 (cmpN x y))/\w=w':=by
 rcases Nat.lt_trichotomy x y with h | h | h
 ·rw [zb7 h]
  go_enter Tryz.func268,Tryz.ntmps268
  go_wp2_with (go_at_call 295; refine (zfF _ _).mono ?_; rintro e w' ⟨rfl,rfl⟩)
  go_ret
  exact ⟨rfl,rfl⟩
 ·subst h
  rw [zbS]
  go_enter Tryz.func268,Tryz.ntmps268
  go_wp2_with (go_at_call 295; refine (zfF _ _).mono ?_; rintro e w' ⟨rfl,rfl⟩)
  go_ret
  exact ⟨rfl,rfl⟩
 ·rw [zbR h]
  go_enter Tryz.func268,Tryz.ntmps268
  go_wp2_with (go_at_call 295; refine (zfF _ _).mono ?_; rintro e w' ⟨rfl,rfl⟩)
  go_ret
  exact ⟨rfl,rfl⟩
theorem zjq (x y:Nat) (w:World):Calls Tryz.prog 267 #[.int .i64 (x:Int),.int .i64 (y:Int)] w fun e w'=>e = .returned (.int .i64 (cmpN x y))/\w=w':=by
 refine (Tryz.cmp_Compare_int _ _ w).mono ?_
 rintro e w' ⟨rfl,rfl⟩
 refine ⟨zbF ?_,rfl⟩
 unfold Lib.compareInt cmpN
 split <;> split <;> (try split) <;> omega
theorem zhz {us vs:List Nat} {k x y:Nat} (hu:∀ z ∈ us,z < B64) (hd:us.drop (k+1)=vs.drop (k+1)) (hx:us[k]?=some x) (hy:vs[k]?=some y) (h:x < y):val us < val vs:=by
 have hs:∀ {l:List Nat} {z:Nat},l[k]?=some z -> val l=val (l.take k)+B64 ^ k * (z+B64 * val (l.drop (k+1))):=by
  intro l z hz
  obtain ⟨hk,e⟩:=zh.1 hz
  conv=>lhs; rw [<- List.take_append_drop k l,val_append,List.drop_eq_getElem_cons hk,val]
  rw [List.length_take,Nat.min_eq_left (by omega),e]
 rw [hs hx,hs hy,hd]
 have h1:val (us.take k) < B64 ^ k:=by
  have:=zcS (us.take k) (fun z hz=>hu z (List.mem_of_mem_take hz))
  refine Nat.lt_of_lt_of_le this (zaV ?_)
  rw [List.length_take]
  exact Nat.min_le_left _ _
 have h2:B64 ^ k * (x+B64 * val (vs.drop (k+1))+1) <= B64 ^ k * (y+B64 * val (vs.drop (k+1))):=Nat.mul_le_mul_left _ (by omega)
 rw [Nat.mul_add _ _ 1] at h2
 omega
theorem zjX {a b:Nat} (h:wl a < wl b):a < b:=by
 rcases Nat.lt_or_ge a b with h1 | h1
 ·exact h1
 ·have:=zar h1; omega
theorem zhk (A B:Option Addr) (c d:Nat) (a b:Nat) (w:World) (ha:WordsAt w A (limbs a)) (hb:WordsAt w B (limbs b)) (hn:wl a <= MaxW) (hm:wl b <= MaxW):
  Calls Tryz.prog 232 #[.slice A (wl a) c,.slice B (wl b) d] w fun e w'=>e = .returned (.int .i64 (cmpN a b))/\Drew w w':=by
 unfold MaxW at hn hm
 by_cases hl:wl a=wl b
 ·have HL := zc hl
  have hl1:wl a <= wl b:=by omega
  have hl2:wl b <= wl a:=by omega
  have hne:((wl a:Int) != (wl b:Int))=false:=by simp [hl]
  clear hl
  go_enter Tryz.func232,Tryz.ntmps232
  go_wp2
  go_loopw [5] (fun s wr=>∃ k:Nat,k <= wl a/\s = .int .i64 ((k:Int) - 1)/\(limbs a).drop k=(limbs b).drop k/\Drew w wr) (fun s _=>(intOf s+1).toNat)
  case atStart=>exact ⟨wl a,zv _,rfl,by rw [List.drop_of_length_le (by exact zv _),List.drop_of_length_le (by exact hl2)],Drew.refl _⟩
  case round=>
   obtain ⟨k,hk,rfl,hd,hdw⟩:=hrel
   have HD:=zc hd
   clear hd
   by_cases h0:0 < k
   ·obtain ⟨j, rfl⟩ : ∃ j, k = j + 1 := ⟨k - 1, by omega⟩
    rw [show ((j+1:Nat):Int) - 1=(j:Int) by omega]
    obtain ⟨ad,x,rfl,_,hcx,hxl,HX⟩:=(hdw.words ha).get (show j < (limbs a).length by show j < wl a; omega)
    obtain ⟨bd,y,rfl,_,hcy,hyl,HY⟩:=(hdw.words hb).get (show j < (limbs b).length by show j < wl b; omega)
    by_cases hxy:x=y
    ·have HE := zc hxy
     have hxy':((x:Int) != (y:Int))=false:=by simp [hxy]
     clear hxy
     go_wp2
     go_quiet (fail)
     go_wp2
     go_roundw
     case rel=>
      refine ⟨j,by omega,rfl,?_,hdw.more _⟩
      obtain ⟨h1,e1⟩:=zh.1 HX.out
      obtain ⟨h2,e2⟩:=zh.1 HY.out
      rw [List.drop_eq_getElem_cons h1,List.drop_eq_getElem_cons h2,e1,e2,HE.out,HD.out]
     case measure=>simp [intOf]
    ·have hxy' : ((x : Int) != (y : Int)) = true := by simp; omega
     have HC:Hid (cmpN x y=cmpN a b):=zmn
      (fun h=>by have:=zhz (zcI a) HD.out HX.out HY.out h; rwa [zan,zan] at this)
      (fun h=>by have:=zhz (zcI b) HD.out.symm HY.out HX.out h; rwa [zan,zan] at this)
      (fun h=>absurd h hxy)
     clear hxy
     go_wp2
     go_quiet (fail)
     generalize hW:wr.drewN nq=w2
     have hcx2:w2.cell? (ad.add j)=some (.int .u64 (x:Int)):=by rw [<- hW]; exact hcx
     have hcy2:w2.cell? (bd.add j)=some (.int .u64 (y:Int)):=by rw [<- hW]; exact hcy
     have HD2:Hid (Drew w w2):=by rw [<- hW]; exact hdw.more _
     clear hW hcx hcy
     go_wp2
     go_quiet ((go_at_call 268; exact Calls.quiet_of_same ((zjo _ _ _).mono fun _ _ h=>⟨h.1,h.2.symm⟩)))
     go_wp2
     go_ret
     exact ⟨zbF HC.out,HD2.out.more _⟩
   ·go_wp2
    go_ret
    have he:k=0:=by omega
    have hd:=HD.out
    rw [he,List.drop_zero,List.drop_zero] at hd
    have hab:a=b:=by rw [<- zan a,<- zan b,hd]
    exact ⟨zbF (by rw [hab,zbS]),hdw⟩
 ·have hne : ((wl a : Int) != (wl b : Int)) = true := by simp; omega
  have hc:cmpN (wl a) (wl b)=cmpN a b:=zmn zjX zjX (fun h=>absurd h hl)
  rw [<- hc]
  clear hc hl
  go_enter Tryz.func232,Tryz.ntmps232
  go_wp2_with (go_at_call 267; refine (zjq _ _ _).mono ?_; rintro e w' ⟨rfl,rfl⟩)
  go_ret
  exact ⟨rfl,Drew.refl _⟩
end Go.Proofs.YtombhkpniddceaaGreatDoor
