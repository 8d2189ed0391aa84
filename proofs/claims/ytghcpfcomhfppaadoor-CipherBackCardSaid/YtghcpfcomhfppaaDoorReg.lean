/-
  A region of a function's code by its number. Nothing of the program is named here.
-/
import Derived.Test.YtghcpfcomhfppaaDoorRows
import Derived.Deep.RegionWith
namespace Go.Proofs.YtghcpfcomhfppaaDoor

def regionNo (k : Nat) : Code → Option Code
  | .region i ops b => if i = k then some (.region i ops b) else none
  | .loop c => regionNo k c
  | .seq a b => match regionNo k a with
    | some c => some c
    | none => regionNo k b
  | .block _ c => regionNo k c
  | .scope c => regionNo k c
  | .cond _ a b => match regionNo k a with
    | some c => some c
    | none => regionNo k b
  | _ => none
end Go.Proofs.YtghcpfcomhfppaaDoor
