/-
  No cell of these rows narrows 'for every input' (looked for: loops, veiled, ifaces, maps, wideKeys, modest, calm, conditions, laid).
  DERIVED. THE GIVEN ROWS OF THIS SEAT. 5 by the template 'for every input the law returns true; each argument reads behind the call as it read before'; 0 by the template 'total and deterministic' (their statements: YtbjohffpjfglgaaTotals.lean).
  GIVEN WITH THE SEED: the statements are not yours to turn. If you find one false, say at which input.
  Laid BY PROGRAM, IN A SANDBOX (cutbox-rows.mjs): the forced cells as the released guide's own fill.sh prints them over the translation 9a8bb4abe1ec5752… (all of the seat's roots in one cut). By AI agents, Wed Nov 11 2026. No macro, syntax, notation, axiom, sorry.
-/
import Derived.Test.YtbjohffpjfglgaaChecked
import GoSem.Claim
import GoSem.ClaimJoined
import GoSem.ClaimMapViews
import Derived.JoinedTies
import Derived.KernelRfl
namespace Go.Proofs.Ytbjohffpjfglgaa
/- THE CELL 'sum', in the pinned program and in every row, IS THE sha256 OF THE DUMP (.gsa) THAT YtbjohffpjfglgaaProg.lean LOADS. Nothing in Lean hashes anything: it is a label: what it is worth is what the hold of that sum in a sandbox is worth. -/
noncomputable def Try.pinned : Pinned := { name := "ytbjohffpjfglgaa", sum := "9a8bb4abe1ec57527a9b8b7d2273f7980c8d0fc7c03038b024c4c79de531fed4", checked := Try.checked }
namespace Rows
def none {H : Type} : Left H := { results := [], args := [] }

/-- 'mooringlaw15.NonceMatchesReference': WHATEVER THE INPUT: true; the input reads as it did. -/
def nonceMatchesReferenceSpec : ChangeSpec := { name := "nonceMatchesReference", fn := fun _ => fun
  | [d1, d2] => { results := [.lit (.bool true)], args := [d1, d2] }
  | _ => none }
def nonceMatchesReferenceRow : OpenClaim := { program := "ytbjohffpjfglgaa", sum := "9a8bb4abe1ec57527a9b8b7d2273f7980c8d0fc7c03038b024c4c79de531fed4", func := "mooring/mooringlaw15.NonceMatchesReference", spec := "nonceMatchesReference", apart := false }
def NonceMatchesReferenceSaid : Prop := nonceMatchesReferenceRow.holds Try.pinned (OpenSpec.ofChange nonceMatchesReferenceSpec)

/-- ITS FALSE NEIGHBOUR: 'it returns false'. Refute it at one input. -/
def nonceMatchesReferenceWrong : ChangeSpec := { name := "nonceMatchesReference", fn := fun _ => fun
  | [d1, d2] => { results := [.lit (.bool false)], args := [d1, d2] }
  | _ => none }
def NonceMatchesReferenceWrongFalsely : Prop := nonceMatchesReferenceRow.holds Try.pinned (OpenSpec.ofChange nonceMatchesReferenceWrong)

/-- 'mooringlaw15.NonceHeads': WHATEVER THE INPUT: true; the input reads as it did. -/
def nonceHeadsSpec : ChangeSpec := { name := "nonceHeads", fn := fun _ => fun
  | [d] => { results := [.lit (.bool true)], args := [d] }
  | _ => none }
def nonceHeadsRow : OpenClaim := { program := "ytbjohffpjfglgaa", sum := "9a8bb4abe1ec57527a9b8b7d2273f7980c8d0fc7c03038b024c4c79de531fed4", func := "mooring/mooringlaw15.NonceHeads", spec := "nonceHeads", apart := false }
def NonceHeadsSaid : Prop := nonceHeadsRow.holds Try.pinned (OpenSpec.ofChange nonceHeadsSpec)

/-- ITS FALSE NEIGHBOUR: 'it returns false'. Refute it at one input. -/
def nonceHeadsWrong : ChangeSpec := { name := "nonceHeads", fn := fun _ => fun
  | [d] => { results := [.lit (.bool false)], args := [d] }
  | _ => none }
def NonceHeadsWrongFalsely : Prop := nonceHeadsRow.holds Try.pinned (OpenSpec.ofChange nonceHeadsWrong)

/-- 'mooringlaw15.NonceParses': WHATEVER THE INPUT: true; the input reads as it did. -/
def nonceParsesSpec : ChangeSpec := { name := "nonceParses", fn := fun _ => fun
  | [d] => { results := [.lit (.bool true)], args := [d] }
  | _ => none }
def nonceParsesRow : OpenClaim := { program := "ytbjohffpjfglgaa", sum := "9a8bb4abe1ec57527a9b8b7d2273f7980c8d0fc7c03038b024c4c79de531fed4", func := "mooring/mooringlaw15.NonceParses", spec := "nonceParses", apart := false }
def NonceParsesSaid : Prop := nonceParsesRow.holds Try.pinned (OpenSpec.ofChange nonceParsesSpec)

/-- ITS FALSE NEIGHBOUR: 'it returns false'. Refute it at one input. -/
def nonceParsesWrong : ChangeSpec := { name := "nonceParses", fn := fun _ => fun
  | [d] => { results := [.lit (.bool false)], args := [d] }
  | _ => none }
def NonceParsesWrongFalsely : Prop := nonceParsesRow.holds Try.pinned (OpenSpec.ofChange nonceParsesWrong)

/-- 'mooringlaw15.NonceApart': WHATEVER THE INPUT: true; the input reads as it did. -/
def nonceApartSpec : ChangeSpec := { name := "nonceApart", fn := fun _ => fun
  | [d1, d2, d3, d4] => { results := [.lit (.bool true)], args := [d1, d2, d3, d4] }
  | _ => none }
def nonceApartRow : OpenClaim := { program := "ytbjohffpjfglgaa", sum := "9a8bb4abe1ec57527a9b8b7d2273f7980c8d0fc7c03038b024c4c79de531fed4", func := "mooring/mooringlaw15.NonceApart", spec := "nonceApart", apart := false }
def NonceApartSaid : Prop := nonceApartRow.holds Try.pinned (OpenSpec.ofChange nonceApartSpec)

/-- ITS FALSE NEIGHBOUR: 'it returns false'. Refute it at one input. -/
def nonceApartWrong : ChangeSpec := { name := "nonceApart", fn := fun _ => fun
  | [d1, d2, d3, d4] => { results := [.lit (.bool false)], args := [d1, d2, d3, d4] }
  | _ => none }
def NonceApartWrongFalsely : Prop := nonceApartRow.holds Try.pinned (OpenSpec.ofChange nonceApartWrong)

/-- 'mooringlaw15.NonceOthers': WHATEVER THE INPUT: true; the input reads as it did. -/
def nonceOthersSpec : ChangeSpec := { name := "nonceOthers", fn := fun _ => fun
  | [d] => { results := [.lit (.bool true)], args := [d] }
  | _ => none }
def nonceOthersRow : OpenClaim := { program := "ytbjohffpjfglgaa", sum := "9a8bb4abe1ec57527a9b8b7d2273f7980c8d0fc7c03038b024c4c79de531fed4", func := "mooring/mooringlaw15.NonceOthers", spec := "nonceOthers", apart := false }
def NonceOthersSaid : Prop := nonceOthersRow.holds Try.pinned (OpenSpec.ofChange nonceOthersSpec)

/-- ITS FALSE NEIGHBOUR: 'it returns false'. Refute it at one input. -/
def nonceOthersWrong : ChangeSpec := { name := "nonceOthers", fn := fun _ => fun
  | [d] => { results := [.lit (.bool false)], args := [d] }
  | _ => none }
def NonceOthersWrongFalsely : Prop := nonceOthersRow.holds Try.pinned (OpenSpec.ofChange nonceOthersWrong)

/- THE SECOND FORM. 'bulk': how many values and letters a reading holds, each counted each time it is reached (what is shared counts as often as it is met; a slice's spare places count too). A statement '..UptoSaid' is the law's where the arguments, and the package variables that the reading takes, are together of bulk at most 1048576: NARROWER than '..Said'. Prove '..Said' where nothing that the law and all that it calls make is longer than what came in: it says more and counts as full. Else prove '..UptoSaid'. A law counts once. -/
mutual
def uptoBulk {H : Type} : DataW H → Nat
  | .lit (.string bytes) => bytes.length + 1
  | .lit _ => 1
  | .nil => 1
  | .ptr d => uptoBulk d + 1
  | .slice elems spare => uptoBulkAll elems + uptoBulkAll spare + 1
  | .agg parts => uptoBulkAll parts + 1
  | .iface _ d => uptoBulk d + 1
  | .map entries => uptoBulkEntries entries + 1
  | .held _ => 1
def uptoBulkAll {H : Type} : List (DataW H) → Nat
  | [] => 0
  | d :: r => uptoBulk d + uptoBulkAll r
def uptoBulkEntries {H : Type} : List (Lit × DataW H) → Nat
  | [] => 0
  | x :: r => uptoBulkEntry x + uptoBulkEntries r
def uptoBulkEntry {H : Type} : Lit × DataW H → Nat
  | (.string bytes, d) => bytes.length + uptoBulk d + 1
  | (_, d) => uptoBulk d + 1
 end
def uptoSmall : (H : Type) → List (DataW H) → Bool := fun _ ds => decide (uptoBulkAll ds ≤ 1048576)
def OpenSpec.upto (s : _root_.Go.ChangeSpec) : _root_.Go.OpenSpec := { _root_.Go.OpenSpec.ofChange s with cond := some uptoSmall }

/-- 'mooringlaw15.NonceMatchesReference', WHERE WHAT IT READS IS OF BULK AT MOST 1048576: true; the input reads as it did. -/
def nonceMatchesReferenceUptoRow : OpenClaim := { program := "ytbjohffpjfglgaa", sum := "9a8bb4abe1ec57527a9b8b7d2273f7980c8d0fc7c03038b024c4c79de531fed4", func := "mooring/mooringlaw15.NonceMatchesReference", spec := "nonceMatchesReference", apart := false, narrowed := true }
def NonceMatchesReferenceUptoSaid : Prop := nonceMatchesReferenceUptoRow.holds Try.pinned (OpenSpec.upto nonceMatchesReferenceSpec)

/-- 'mooringlaw15.NonceHeads', WHERE WHAT IT READS IS OF BULK AT MOST 1048576: true; the input reads as it did. -/
def nonceHeadsUptoRow : OpenClaim := { program := "ytbjohffpjfglgaa", sum := "9a8bb4abe1ec57527a9b8b7d2273f7980c8d0fc7c03038b024c4c79de531fed4", func := "mooring/mooringlaw15.NonceHeads", spec := "nonceHeads", apart := false, narrowed := true }
def NonceHeadsUptoSaid : Prop := nonceHeadsUptoRow.holds Try.pinned (OpenSpec.upto nonceHeadsSpec)

/-- 'mooringlaw15.NonceParses', WHERE WHAT IT READS IS OF BULK AT MOST 1048576: true; the input reads as it did. -/
def nonceParsesUptoRow : OpenClaim := { program := "ytbjohffpjfglgaa", sum := "9a8bb4abe1ec57527a9b8b7d2273f7980c8d0fc7c03038b024c4c79de531fed4", func := "mooring/mooringlaw15.NonceParses", spec := "nonceParses", apart := false, narrowed := true }
def NonceParsesUptoSaid : Prop := nonceParsesUptoRow.holds Try.pinned (OpenSpec.upto nonceParsesSpec)

/-- 'mooringlaw15.NonceApart', WHERE WHAT IT READS IS OF BULK AT MOST 1048576: true; the input reads as it did. -/
def nonceApartUptoRow : OpenClaim := { program := "ytbjohffpjfglgaa", sum := "9a8bb4abe1ec57527a9b8b7d2273f7980c8d0fc7c03038b024c4c79de531fed4", func := "mooring/mooringlaw15.NonceApart", spec := "nonceApart", apart := false, narrowed := true }
def NonceApartUptoSaid : Prop := nonceApartUptoRow.holds Try.pinned (OpenSpec.upto nonceApartSpec)

/-- 'mooringlaw15.NonceOthers', WHERE WHAT IT READS IS OF BULK AT MOST 1048576: true; the input reads as it did. -/
def nonceOthersUptoRow : OpenClaim := { program := "ytbjohffpjfglgaa", sum := "9a8bb4abe1ec57527a9b8b7d2273f7980c8d0fc7c03038b024c4c79de531fed4", func := "mooring/mooringlaw15.NonceOthers", spec := "nonceOthers", apart := false, narrowed := true }
def NonceOthersUptoSaid : Prop := nonceOthersUptoRow.holds Try.pinned (OpenSpec.upto nonceOthersSpec)

end Rows
end Go.Proofs.Ytbjohffpjfglgaa
