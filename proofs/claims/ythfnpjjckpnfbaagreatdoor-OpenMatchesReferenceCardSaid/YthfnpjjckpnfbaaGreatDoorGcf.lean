/-
 Contracts of package cipher, by walks through their texts, one after the other; what was there stays as it was.
-/
import Derived.Test.YthfnpjjckpnfbaaGreatDoorGcr
import Derived.Test.YthfnpjjckpnfbaaGreatDoorGsb
import Derived.Test.YthfnpjjckpnfbaaGreatDoorGfi
import Derived.Deep.RegionHeld3
import Derived.BigRegion
import Derived.Shelf.Abstract
import Derived.Test.YthfnpjjckpnfbaaGreatDoorGke
import Derived.Test.YthfnpjjckpnfbaaGreatDoorFre
namespace Go.Proofs.YthfnpjjckpnfbaaGreatDoor

/-! Contract of cipher.fill, whatever the function handed to it: its results, one after the other, by a walk through its text; what was there stays as it was. -/
section
open Go.RowKit
set_option linter.unusedVariables false
set_option maxRecDepth 100000

end

/-! Contracts of the steps Sub, Unsub, Shift and Unshift of package cipher, and of the functions in them, by walks through their texts; what was there stays as it was. -/
section
open Go.RowKit
set_option linter.unusedVariables false
set_option maxRecDepth 100000

end

/-! Contract of the function in Add of package cipher, by a walk through its text; what was there stays as it was. -/
section
open Go.RowKit
set_option linter.unusedVariables false
set_option maxRecDepth 10000

end

/-! Contract of the function in blend of package cipher, by a walk through its text; what was there stays as it was. -/
section
open Go.RowKit
set_option linter.unusedVariables false
set_option maxRecDepth 100000

end

/-! Contracts of the steps of package cipher, by walks through their texts, over the contract of cipher.fill; what was there stays as it was. -/
section
open Go.RowKit
set_option linter.unusedVariables false
set_option maxRecDepth 100000

end

/-! Contract of cipher.Encrypt, by a walk through its text, over the contracts of the steps; what was there stays as it was. -/
section
open Go.RowKit
set_option linter.unusedVariables false
set_option maxRecDepth 100000

end

/-! Contract of cipher.Decrypt, by a walk through its text, over the contracts of the steps; what was there stays as it was. -/
section
open Go.RowKit
set_option linter.unusedVariables false
set_option maxRecDepth 100000

end
end Go.Proofs.YthfnpjjckpnfbaaGreatDoor
