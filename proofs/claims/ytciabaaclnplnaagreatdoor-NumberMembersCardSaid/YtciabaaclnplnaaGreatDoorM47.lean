import Derived.Test.YtciabaaclnplnaaGreatDoorM46
set_option linter.all false
namespace Go.Proofs.YtciabaaclnplnaaGreatDoor
open Go.RowKit
section
open Go.Sort Go.Lib
end
def fewP (l:List UInt8) (d:Nat):Prop:=l.length <= 2 * d+2/\readE l=0/\(Lib.decDigits (readQ l).num.natAbs).length <= d/\(Lib.decDigits (readQ l).den).length <= d
instance (l:List UInt8) (d:Nat):Decidable (fewP l d):=by unfold fewP; infer_instance
def Mem (x:Rat) (a:Rat × Rat):Prop:=a.1 <= x/\x <= a.2
section
open Go.Sort Go.Lib
section
variable {w:World} {al ah bl bh:List UInt8}
end
def fewS (a b:List UInt8) (d:Nat):Bool:=decide (fewP a d) && decide (fewP b d) && decide (spE a b=0)
section
variable {w:World} {a b:List UInt8} {d:Nat}
end
section
variable {w:World} {x:Rat × Rat} {k m:Nat}
end
end
section
open Go.Sort Go.Lib
class ChkOk (a b:List UInt8):Prop where
 out:∀ w:World,Calls Tryz.prog 19 #[spv a b] w (PRet w (.int .i64 0))
class HasOk (a b v:List UInt8):Prop where
 out:∀ w:World,Calls Tryz.prog 32 #[spv a b,str v] w (PRet w (.bool true))
class WinOk (a b:List UInt8) (m:Nat) (v:outParam (List UInt8)):Prop where
 out:∀ w:World,Calls Tryz.prog 46 #[spv a b,.int .u8 (m:Int)] w (PRet w (str v))
end
section
open Go.Sort Go.Lib
section
variable {al ah bl bh:List UInt8}
structure EnOk (Z:Rat × Rat) (v:Rat):Prop where
 chk:ChkOk (zad Z.1) (zad Z.2)
 has:HasOk (zad Z.1) (zad Z.2) (zad v)
section
variable (hA:fewS al ah 6=true) (hB:fewS bl bh 6=true) {x y:Rat} (hx:Mem x (rdI al ah)) (hy:Mem y (rdI bl bh)) (dx:Sz x 8) (dy:Sz y 8)
include hA hB hx hy dx dy
end
end
end
end Go.Proofs.YtciabaaclnplnaaGreatDoor
