/-
  Small lemmas that the walks over bytes share: endings and values by equations, the exclusive or of bytes. No condition; nothing of the program is named here.
-/
import Derived.Test.YtdfponbfgcfpdaaDoorRows
import Derived.Test.YtdfponbfgcfpdaaDoorMem
import Derived.Test.YtdfponbfgcfpdaaDoorNum
import Derived.Test.YtdfponbfgcfpdaaDoorFld
import Derived.WalkSpells
import Derived.Deep.QuietTactic
import Derived.BigQuiet
import Derived.RegionTactic
import Derived.WalkMore
namespace Go.Proofs.YtdfponbfgcfpdaaDoor
open Go.RowKit
set_option linter.unusedVariables false

theorem fret_of {k : IntKind} {a b : Int} (h : a = b) : Ending.returned (.int k a) = .returned (.int k b) := by rw [h]
theorem fval_of {k : IntKind} {a b : Int} (h : a = b) : Value.int k a = .int k b := by rw [h]
theorem xor_n8 (a b : Nat) (ha : a < 256) (hb : b < 256) : bits .xor .u8 (a : Int) (b : Int) = ((a ^^^ b : Nat) : Int) := bits_xor_nat .u8 8 (by decide) wraps_u8 a b ha hb
end Go.Proofs.YtdfponbfgcfpdaaDoor
