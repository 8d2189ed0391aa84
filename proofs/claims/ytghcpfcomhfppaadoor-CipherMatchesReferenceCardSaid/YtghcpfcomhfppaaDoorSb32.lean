/-
  Contract of the library's rotation of a word by eight bits, by a walk through its text; nothing is written.
-/
import Derived.Test.YtghcpfcomhfppaaDoorFre
namespace Go.Proofs.YtghcpfcomhfppaaDoor
open Go.RowKit
set_option linter.unusedVariables false
set_option maxRecDepth 10000

theorem rotl32 (x : Nat) (w : World) (hx : x < 4294967296) :
    Calls Tryd.prog 52 #[.int .u32 x, .int .i64 8] w fun e w' => e = .returned (.int .u32 (rot8 x : Nat)) ∧ w' = w := by
  have hr : Hid (bits BinOp.or IntKind.u32 ((x : Int) * 2 ^ 8 % 4294967296) ((x : Int) / 2 ^ 24) = ((rot8 x : Nat) : Int)) := by
    have e1 : ((x : Int) * 2 ^ 8 % 4294967296) = ((x * 256 % 4294967296 : Nat) : Int) := by simp
    have e2 : ((x : Int) / 2 ^ 24) = ((x / 16777216 : Nat) : Int) := by simp
    unfold Hid
    rw [e1, e2, or_u32 _ _ (Nat.mod_lt _ (by decide)) (Nat.lt_of_le_of_lt (Nat.div_le_self _ _) hx), or_rot8 x hx]
  have hk2 : bits BinOp.and IntKind.u64 8 31 = 8 := by decide +kernel
  go_enter Tryd.func52, Tryd.ntmps52
  go_wp2
  go_ret
  exact ⟨fret_of hr.out, rfl⟩
end Go.Proofs.YtghcpfcomhfppaaDoor
