/-
 The check of the documentation's examples of layer 6 returns true. No condition but what the table holds; what was there stays as it was.
-/
import Derived.Test.YthfnpjjckpnfbaaGreatDoorGcf
import Derived.Test.YthfnpjjckpnfbaaGreatDoorFre
import Derived.Test.YthfnpjjckpnfbaaGreatDoorEqs
import Derived.Test.YthfnpjjckpnfbaaGreatDoorArg
namespace Go.Proofs.YthfnpjjckpnfbaaGreatDoor
open Go.RowKit
set_option linter.unusedVariables false
set_option maxRecDepth 100000

theorem zF_lt : B16 zF := fun _ _ => by unfold zF; omega

end Go.Proofs.YthfnpjjckpnfbaaGreatDoor
