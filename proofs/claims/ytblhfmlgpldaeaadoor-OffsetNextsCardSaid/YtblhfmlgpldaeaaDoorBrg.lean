/-
  Contract of Pad in the reference package of layer 8, by a walk through its text; what was there stays as it was.
-/
import Derived.Test.YtblhfmlgpldaeaaDoorBrf
namespace Go.Proofs.YtblhfmlgpldaeaaDoor
open Go.RowKit
set_option linter.unusedVariables false
set_option maxRecDepth 100000

/-- The padded bytes of a rest, as many as n. -/
def padL (l : List UInt8) (n : Nat) : List UInt8 := l ++ 128 :: List.replicate (n - (l.length + 1)) 0
theorem padL_len (l : List UInt8) (n : Nat) (h : l.length + 1 ≤ n) : (padL l n).length = n := by simp [padL]; omega
theorem padL_snoc (l : List UInt8) (n : Nat) (h : l.length + 1 ≤ n) : padL l (n + 1) = padL l n ++ [0] := by
  unfold padL
  rw [show n + 1 - (l.length + 1) = n - (l.length + 1) + 1 by omega, List.replicate_succ']
  simp
theorem padL_first (l : List UInt8) : padL l (l.length + 1) = l ++ [128] := by simp [padL]
def slLen : Value → Nat
  | .slice _ m _ => m
  | _ => 0
def lF (l : List UInt8) (j : Nat) : Nat := (l.getD j 0).toNat
theorem info8x : (Tryd.prog.info? 5).map (fun i => (i.zero, i.size, i.bytes)) = some (some (.int .u8 0), 1, 1) := by kernel_rfl
def Ow8 (w : World) (B : Nat) (v : Value) (n : Nat) (l : List UInt8) : Prop := w.ownsRow B 5 1 v n (l.map b8)
theorem map_b8_snoc (l : List UInt8) (x : UInt8) : (l ++ [x]).map b8 = l.map b8 ++ [b8 x] := by simp

end Go.Proofs.YtblhfmlgpldaeaaDoor
