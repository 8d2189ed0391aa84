/-
 Contracts of the functions of package bits and of the reference package of layer 1, each by a walk through its text: what it returns for slices of bytes of less than 2^47 bytes and for any words; none writes what was there.
-/
import Derived.Test.YthfnpjjckpnfbaaGreatDoorRows
import Derived.Test.YthfnpjjckpnfbaaGreatDoorFre
import Derived.WalkSpells
import Derived.Deep.QuietTactic
import Derived.BigQuiet
import Derived.RegionTactic
namespace Go.Proofs.YthfnpjjckpnfbaaGreatDoor
open Go.RowKit
set_option linter.unusedVariables false

theorem ret_of {k : IntKind} {a b : Int} (h : a = b) : Ending.returned (.int k a) = .returned (.int k b) := by rw [h]
theorem ret_bool {a b : Bool} (h : a = b) : Ending.returned (.bool a) = .returned (.bool b) := by rw [h]
theorem val_of {k : IntKind} {a b : Int} (h : a = b) : Value.int k a = .int k b := by rw [h]

theorem take_snoc (l : List UInt8) (k : Nat) (h : k < l.length) : l.take (k + 1) = l.take k ++ [l[k]?.getD 0] := by
 rw [List.take_succ_eq_append_getElem h]; simp [List.getElem?_eq_getElem h]

/-! ### Numbers -/
end Go.Proofs.YthfnpjjckpnfbaaGreatDoor
