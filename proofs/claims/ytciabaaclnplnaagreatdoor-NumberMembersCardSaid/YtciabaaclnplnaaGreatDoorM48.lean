import Derived.Test.YtciabaaclnplnaaGreatDoorM00
import Derived.OpenShut
import Derived.ProofKit
set_option linter.all false
namespace Go.Proofs.YtciabaaclnplnaaGreatDoor
end Go.Proofs.YtciabaaclnplnaaGreatDoor
