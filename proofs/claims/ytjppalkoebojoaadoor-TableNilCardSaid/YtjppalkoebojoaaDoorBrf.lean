/-
  Contracts of Xor and Part in the reference package of layer 8, by walks through their texts; what was there stays as it was.
-/
import Derived.Test.YtjppalkoebojoaaDoorBrc
namespace Go.Proofs.YtjppalkoebojoaaDoor
open Go.RowKit
set_option linter.unusedVariables false
set_option maxRecDepth 100000

theorem xor_part (f k : Nat → Nat) (n m : Nat) : (if m = n then f n ^^^ k n else (if m < n then adF f k m else f m)) = if m < n + 1 then adF f k m else f m := by
  by_cases h : m = n
  · rw [if_pos h, if_pos (by omega), h]; rfl
  · rw [if_neg h]
    by_cases h2 : m < n
    · rw [if_pos h2, if_pos (by omega)]
    · rw [if_neg h2, if_neg (by omega)]

theorem arrayAt16 (g o c : Nat) (w : World) : (Instr.arrayAt 22 (.slice (some ⟨g, o, none⟩) 16 c)).run Tryd.prog w = .ok (.pointer (some ⟨g, o, none⟩)) w := by
  simp [Instr.arrayAt, run_underlying Tryd.arr16x]

end Go.Proofs.YtjppalkoebojoaaDoor
