/-
  No cell of these rows narrows 'for every input' (looked for: loops, veiled, ifaces, maps, wideKeys, modest, calm, conditions, laid).
  DERIVED. THE GIVEN ROWS OF THIS SEAT. 5 by the template 'for every input the law returns true; each argument reads behind the call as it read before'; 0 by the template 'total and deterministic' (their statements: YtjonkmcglhhdaaaTotals.lean).
  GIVEN WITH THE SEED: the statements are not yours to turn. If you find one false, say at which input.
  Laid BY PROGRAM, IN A SANDBOX (cutbox-rows.mjs): the forced cells as the released guide's own fill.sh prints them over the translation 4921cf8ab64843ea… (all of the seat's roots in one cut). By AI agents, Wed Nov 11 2026. No macro, syntax, notation, axiom, sorry.
-/
import Derived.Test.YtjonkmcglhhdaaaChecked
import GoSem.Claim
import GoSem.ClaimJoined
import GoSem.ClaimMapViews
import Derived.JoinedTies
import Derived.KernelRfl
namespace Go.Proofs.Ytjonkmcglhhdaaa
/- THE CELL 'sum', in the pinned program and in every row, IS THE sha256 OF THE DUMP (.gsa) THAT YtjonkmcglhhdaaaProg.lean LOADS. Nothing in Lean hashes anything: it is a label: what it is worth is what the hold of that sum in a sandbox is worth. -/
noncomputable def Try.pinned : Pinned := { name := "ytjonkmcglhhdaaa", sum := "4921cf8ab64843ea378b6f39832aa88db7b5eadddea6773d07c8fca1ea695c63", checked := Try.checked }
namespace Rows
def none {H : Type} : Left H := { results := [], args := [] }

/-- 'mooringlaw01.BitsMatchesReference': WHATEVER THE INPUT: true; the input reads as it did. -/
def bitsMatchesReferenceSpec : ChangeSpec := { name := "bitsMatchesReference", fn := fun _ => fun
  | [d] => { results := [.lit (.bool true)], args := [d] }
  | _ => none }
def bitsMatchesReferenceRow : OpenClaim := { program := "ytjonkmcglhhdaaa", sum := "4921cf8ab64843ea378b6f39832aa88db7b5eadddea6773d07c8fca1ea695c63", func := "mooring/mooringlaw01.BitsMatchesReference", spec := "bitsMatchesReference", apart := false }
def BitsMatchesReferenceSaid : Prop := bitsMatchesReferenceRow.holds Try.pinned (OpenSpec.ofChange bitsMatchesReferenceSpec)

/-- ITS FALSE NEIGHBOUR: 'it returns false'. Refute it at one input. -/
def bitsMatchesReferenceWrong : ChangeSpec := { name := "bitsMatchesReference", fn := fun _ => fun
  | [d] => { results := [.lit (.bool false)], args := [d] }
  | _ => none }
def BitsMatchesReferenceWrongFalsely : Prop := bitsMatchesReferenceRow.holds Try.pinned (OpenSpec.ofChange bitsMatchesReferenceWrong)

/-- 'mooringlaw01.BitsNumbers': WHATEVER THE INPUT: true; the input reads as it did. -/
def bitsNumbersSpec : ChangeSpec := { name := "bitsNumbers", fn := fun _ => fun
  | [d1, d2] => { results := [.lit (.bool true)], args := [d1, d2] }
  | _ => none }
def bitsNumbersRow : OpenClaim := { program := "ytjonkmcglhhdaaa", sum := "4921cf8ab64843ea378b6f39832aa88db7b5eadddea6773d07c8fca1ea695c63", func := "mooring/mooringlaw01.BitsNumbers", spec := "bitsNumbers", apart := false }
def BitsNumbersSaid : Prop := bitsNumbersRow.holds Try.pinned (OpenSpec.ofChange bitsNumbersSpec)

/-- ITS FALSE NEIGHBOUR: 'it returns false'. Refute it at one input. -/
def bitsNumbersWrong : ChangeSpec := { name := "bitsNumbers", fn := fun _ => fun
  | [d1, d2] => { results := [.lit (.bool false)], args := [d1, d2] }
  | _ => none }
def BitsNumbersWrongFalsely : Prop := bitsNumbersRow.holds Try.pinned (OpenSpec.ofChange bitsNumbersWrong)

/-- 'mooringlaw01.BitsRotates': WHATEVER THE INPUT: true; the input reads as it did. -/
def bitsRotatesSpec : ChangeSpec := { name := "bitsRotates", fn := fun _ => fun
  | [d1, d2, d3] => { results := [.lit (.bool true)], args := [d1, d2, d3] }
  | _ => none }
def bitsRotatesRow : OpenClaim := { program := "ytjonkmcglhhdaaa", sum := "4921cf8ab64843ea378b6f39832aa88db7b5eadddea6773d07c8fca1ea695c63", func := "mooring/mooringlaw01.BitsRotates", spec := "bitsRotates", apart := false }
def BitsRotatesSaid : Prop := bitsRotatesRow.holds Try.pinned (OpenSpec.ofChange bitsRotatesSpec)

/-- ITS FALSE NEIGHBOUR: 'it returns false'. Refute it at one input. -/
def bitsRotatesWrong : ChangeSpec := { name := "bitsRotates", fn := fun _ => fun
  | [d1, d2, d3] => { results := [.lit (.bool false)], args := [d1, d2, d3] }
  | _ => none }
def BitsRotatesWrongFalsely : Prop := bitsRotatesRow.holds Try.pinned (OpenSpec.ofChange bitsRotatesWrong)

/-- 'mooringlaw01.BitsXors': WHATEVER THE INPUT: true; the input reads as it did. -/
def bitsXorsSpec : ChangeSpec := { name := "bitsXors", fn := fun _ => fun
  | [d1, d2] => { results := [.lit (.bool true)], args := [d1, d2] }
  | _ => none }
def bitsXorsRow : OpenClaim := { program := "ytjonkmcglhhdaaa", sum := "4921cf8ab64843ea378b6f39832aa88db7b5eadddea6773d07c8fca1ea695c63", func := "mooring/mooringlaw01.BitsXors", spec := "bitsXors", apart := false }
def BitsXorsSaid : Prop := bitsXorsRow.holds Try.pinned (OpenSpec.ofChange bitsXorsSpec)

/-- ITS FALSE NEIGHBOUR: 'it returns false'. Refute it at one input. -/
def bitsXorsWrong : ChangeSpec := { name := "bitsXors", fn := fun _ => fun
  | [d1, d2] => { results := [.lit (.bool false)], args := [d1, d2] }
  | _ => none }
def BitsXorsWrongFalsely : Prop := bitsXorsRow.holds Try.pinned (OpenSpec.ofChange bitsXorsWrong)

/-- 'mooringlaw01.BitsZeros': WHATEVER THE INPUT: true; the input reads as it did. -/
def bitsZerosSpec : ChangeSpec := { name := "bitsZeros", fn := fun _ => fun
  | [d1, d2, d3] => { results := [.lit (.bool true)], args := [d1, d2, d3] }
  | _ => none }
def bitsZerosRow : OpenClaim := { program := "ytjonkmcglhhdaaa", sum := "4921cf8ab64843ea378b6f39832aa88db7b5eadddea6773d07c8fca1ea695c63", func := "mooring/mooringlaw01.BitsZeros", spec := "bitsZeros", apart := false }
def BitsZerosSaid : Prop := bitsZerosRow.holds Try.pinned (OpenSpec.ofChange bitsZerosSpec)

/-- ITS FALSE NEIGHBOUR: 'it returns false'. Refute it at one input. -/
def bitsZerosWrong : ChangeSpec := { name := "bitsZeros", fn := fun _ => fun
  | [d1, d2, d3] => { results := [.lit (.bool false)], args := [d1, d2, d3] }
  | _ => none }
def BitsZerosWrongFalsely : Prop := bitsZerosRow.holds Try.pinned (OpenSpec.ofChange bitsZerosWrong)

/- THE SECOND FORM. 'bulk': how many values and letters a reading holds, each counted each time it is reached (what is shared counts as often as it is met; a slice's spare places count too). A statement '..UptoSaid' is the law's where the arguments, and the package variables that the reading takes, are together of bulk at most 1048576: NARROWER than '..Said'. Prove '..Said' where nothing that the law and all that it calls make is longer than what came in: it says more and counts as full. Else prove '..UptoSaid'. A law counts once. -/
mutual
def uptoBulk {H : Type} : DataW H → Nat
  | .lit (.string bytes) => bytes.length + 1
  | .lit _ => 1
  | .nil => 1
  | .ptr d => uptoBulk d + 1
  | .slice elems spare => uptoBulkAll elems + uptoBulkAll spare + 1
  | .agg parts => uptoBulkAll parts + 1
  | .iface _ d => uptoBulk d + 1
  | .map entries => uptoBulkEntries entries + 1
  | .held _ => 1
def uptoBulkAll {H : Type} : List (DataW H) → Nat
  | [] => 0
  | d :: r => uptoBulk d + uptoBulkAll r
def uptoBulkEntries {H : Type} : List (Lit × DataW H) → Nat
  | [] => 0
  | x :: r => uptoBulkEntry x + uptoBulkEntries r
def uptoBulkEntry {H : Type} : Lit × DataW H → Nat
  | (.string bytes, d) => bytes.length + uptoBulk d + 1
  | (_, d) => uptoBulk d + 1
 end
def uptoSmall : (H : Type) → List (DataW H) → Bool := fun _ ds => decide (uptoBulkAll ds ≤ 1048576)
def OpenSpec.upto (s : _root_.Go.ChangeSpec) : _root_.Go.OpenSpec := { _root_.Go.OpenSpec.ofChange s with cond := some uptoSmall }

/-- 'mooringlaw01.BitsMatchesReference', WHERE WHAT IT READS IS OF BULK AT MOST 1048576: true; the input reads as it did. -/
def bitsMatchesReferenceUptoRow : OpenClaim := { program := "ytjonkmcglhhdaaa", sum := "4921cf8ab64843ea378b6f39832aa88db7b5eadddea6773d07c8fca1ea695c63", func := "mooring/mooringlaw01.BitsMatchesReference", spec := "bitsMatchesReference", apart := false, narrowed := true }
def BitsMatchesReferenceUptoSaid : Prop := bitsMatchesReferenceUptoRow.holds Try.pinned (OpenSpec.upto bitsMatchesReferenceSpec)

/-- 'mooringlaw01.BitsNumbers', WHERE WHAT IT READS IS OF BULK AT MOST 1048576: true; the input reads as it did. -/
def bitsNumbersUptoRow : OpenClaim := { program := "ytjonkmcglhhdaaa", sum := "4921cf8ab64843ea378b6f39832aa88db7b5eadddea6773d07c8fca1ea695c63", func := "mooring/mooringlaw01.BitsNumbers", spec := "bitsNumbers", apart := false, narrowed := true }
def BitsNumbersUptoSaid : Prop := bitsNumbersUptoRow.holds Try.pinned (OpenSpec.upto bitsNumbersSpec)

/-- 'mooringlaw01.BitsRotates', WHERE WHAT IT READS IS OF BULK AT MOST 1048576: true; the input reads as it did. -/
def bitsRotatesUptoRow : OpenClaim := { program := "ytjonkmcglhhdaaa", sum := "4921cf8ab64843ea378b6f39832aa88db7b5eadddea6773d07c8fca1ea695c63", func := "mooring/mooringlaw01.BitsRotates", spec := "bitsRotates", apart := false, narrowed := true }
def BitsRotatesUptoSaid : Prop := bitsRotatesUptoRow.holds Try.pinned (OpenSpec.upto bitsRotatesSpec)

/-- 'mooringlaw01.BitsXors', WHERE WHAT IT READS IS OF BULK AT MOST 1048576: true; the input reads as it did. -/
def bitsXorsUptoRow : OpenClaim := { program := "ytjonkmcglhhdaaa", sum := "4921cf8ab64843ea378b6f39832aa88db7b5eadddea6773d07c8fca1ea695c63", func := "mooring/mooringlaw01.BitsXors", spec := "bitsXors", apart := false, narrowed := true }
def BitsXorsUptoSaid : Prop := bitsXorsUptoRow.holds Try.pinned (OpenSpec.upto bitsXorsSpec)

/-- 'mooringlaw01.BitsZeros', WHERE WHAT IT READS IS OF BULK AT MOST 1048576: true; the input reads as it did. -/
def bitsZerosUptoRow : OpenClaim := { program := "ytjonkmcglhhdaaa", sum := "4921cf8ab64843ea378b6f39832aa88db7b5eadddea6773d07c8fca1ea695c63", func := "mooring/mooringlaw01.BitsZeros", spec := "bitsZeros", apart := false, narrowed := true }
def BitsZerosUptoSaid : Prop := bitsZerosUptoRow.holds Try.pinned (OpenSpec.upto bitsZerosSpec)

end Rows
end Go.Proofs.Ytjonkmcglhhdaaa
