/-
  What the variables hold for the walks of layer 14: the table of package text, and what package errors knows.
-/
import Derived.Test.YtfmlllckfpagkaaDoorTxe
namespace Go.Proofs.YtfmlllckfpagkaaDoor
open Go.RowKit
set_option linter.unusedVariables false
set_option maxRecDepth 100000

def TcIs (w : World) : Prop := ∀ c, c < 128 → w.cell? ⟨0, c, none⟩ = some (.int .i8 (tvI c))
structure TxG (w : World) : Prop where
  err : ErrType w
  tab : TcIs w
theorem TxG.keep {w w' : World} (h : TxG w) (hb : Below w.heap.size w w') : TxG w' := ⟨err_keep h.err hb, fun v hv => (hb.cell (p := ⟨0, v, none⟩) (block_lt (h.tab v hv))).trans (h.tab v hv)⟩
/-- The character that Character returns. -/
def tchN (v : Int) : Nat := if 0 ≤ v ∧ v < 64 then tcF v.toNat else 0
end Go.Proofs.YtfmlllckfpagkaaDoor
