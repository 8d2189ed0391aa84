/-
  The reference's steps of layer 6 on the grid of a block, over their contracts.
-/
import Derived.Test.YtghcpfcomhfppaaDoorCrb
import Derived.Test.YtghcpfcomhfppaaDoorCrd
import Derived.Test.YtghcpfcomhfppaaDoorCre
import Derived.Test.YtghcpfcomhfppaaDoorCrf
namespace Go.Proofs.YtghcpfcomhfppaaDoor
open Go.RowKit
set_option linter.unusedVariables false

theorem tr_lt {X : Nat → Nat} (h : B16 X) : B16 (tr X) := fun j hj => h _ (by omega)
theorem rSub (X : Nat → Nat) (w : World) (h : B16 X) :
    Calls Tryd.prog 19 #[.agg (arL 16 (tr X)).toArray, .agg boxA] w fun e w' => e = .returned (.agg (arL 16 (tr (suF X))).toArray) ∧ Below w.heap.size w w' := refSub6 (tr X) w (tr_lt h)
theorem rShift (X : Nat → Nat) (w : World) (h : B16 X) :
    Calls Tryd.prog 20 #[.agg (arL 16 (tr X)).toArray] w fun e w' => e = .returned (.agg (arL 16 (tr (shF X))).toArray) ∧ Below w.heap.size w w' := by
  have e := arL_ext (n := 16) (fun j hj => (tr_congr (shF_congr (tr_tr X))) j hj)
  have h1 := refShift6 (tr X) w (tr_lt h)
  rwa [e] at h1
theorem rMix (X : Nat → Nat) (w : World) (h : B16 X) :
    Calls Tryd.prog 21 #[.agg (arL 16 (tr X)).toArray] w fun e w' => e = .returned (.agg (arL 16 (tr (miF X))).toArray) ∧ Below w.heap.size w w' := by
  have e : arL 16 (tr (miF (tr (tr X)))) = arL 16 (tr (miF X)) := arL_ext (n := 16) (fun j hj => (tr_congr (mxF_congr 2 3 1 1 (tr_tr X))) j hj)
  have h1 := refMix6 (tr X) w (tr_lt h)
  rwa [e] at h1
theorem rAdd (X k : Nat → Nat) (w : World) (h : B16 X) (hk : B16 k) :
    Calls Tryd.prog 23 #[.agg (arL 16 (tr X)).toArray, .agg (arL 16 k).toArray] w fun e w' => e = .returned (.agg (arL 16 (tr (adF X k))).toArray) ∧ Below w.heap.size w w' := refAdd6 (tr X) k w (tr_lt h) hk
theorem rBlock (X : Nat → Nat) (w : World) :
    Calls Tryd.prog 18 #[.agg (arL 16 (tr X)).toArray] w fun e w' => e = .returned (.agg (arL 16 X).toArray) ∧ Below w.heap.size w w' := by
  have e := arL_ext (n := 16) (fun j hj => tr_tr X j hj)
  have h1 := refBlock (tr X) w
  rwa [e] at h1
end Go.Proofs.YtghcpfcomhfppaaDoor
