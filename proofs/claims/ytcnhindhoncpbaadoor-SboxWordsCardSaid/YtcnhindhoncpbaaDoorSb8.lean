/-
  Contract of the library's rotation of a byte by up to four bits, by a walk through its text; nothing is written.
-/
import Derived.Test.YtcnhindhoncpbaaDoorFut
import Derived.Test.YtcnhindhoncpbaaDoorSbn
namespace Go.Proofs.YtcnhindhoncpbaaDoor
open Go.RowKit
set_option linter.unusedVariables false
set_option maxRecDepth 10000

theorem rotl8 (b n : Nat) (w : World) (hb : b < 256) (hn : n ≤ 4) :
    Calls Tryd.prog 19 #[.int .u8 b, .int .i64 n] w fun e w' => e = .returned (.int .u8 (rl b n : Nat)) ∧ w' = w := by
  have hr : Hid (bits BinOp.or IntKind.u8 ((b : Int) * 2 ^ n % 256) ((b : Int) / 2 ^ (8 - n)) = ((rl b n : Nat) : Int)) := by
    have e1 : ((b : Int) * 2 ^ n % 256) = ((b * 2 ^ n % 256 : Nat) : Int) := by simp
    have e2 : ((b : Int) / 2 ^ (8 - n)) = ((b / 2 ^ (8 - n) : Nat) : Int) := by simp
    unfold Hid
    rw [e1, e2, or_u8 _ _ (Nat.mod_lt _ (by decide)) (Nat.lt_of_le_of_lt (Nat.div_le_self _ _) hb)]; rfl
  have hk1 : IntKind.u64.wrap (n : Int) = n := IntWalk.u64_in _ (by omega)
  have hk2 : bits BinOp.and IntKind.u64 (n : Int) 7 = n := by
    rcases (show n = 0 ∨ n = 1 ∨ n = 2 ∨ n = 3 ∨ n = 4 by omega) with rfl | rfl | rfl | rfl | rfl <;> decide +kernel
  have hk3 : IntKind.u64.wrap (8 - (n : Int)) = 8 - n := IntWalk.u64_in _ (by omega)
  have hk4 : (n : Int) < 8 := by omega
  go_enter Tryd.func19, Tryd.ntmps19
  go_wp2
  go_ret
  exact ⟨fret_of hr.out, rfl⟩
end Go.Proofs.YtcnhindhoncpbaaDoor
