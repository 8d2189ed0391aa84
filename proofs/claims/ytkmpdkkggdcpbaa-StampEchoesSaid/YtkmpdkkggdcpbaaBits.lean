/-
  Contracts of the functions of package bits and of the reference package of layer 1, each by a walk through its text: what it returns for slices of bytes of less than 2^47 bytes and for any words; none writes what was there.
-/
import Derived.Test.YtkmpdkkggdcpbaaRows
import Derived.Test.YtkmpdkkggdcpbaaFre
import Derived.WalkSpells
import Derived.Deep.QuietTactic
import Derived.BigQuiet
import Derived.RegionTactic
namespace Go.Proofs.Ytkmpdkkggdcpbaa
open Go.RowKit
set_option linter.unusedVariables false

theorem ret_of {k : IntKind} {a b : Int} (h : a = b) : Ending.returned (.int k a) = .returned (.int k b) := by rw [h]
theorem ret_bool {a b : Bool} (h : a = b) : Ending.returned (.bool a) = .returned (.bool b) := by rw [h]
theorem val_of {k : IntKind} {a b : Int} (h : a = b) : Value.int k a = .int k b := by rw [h]

theorem take_snoc (l : List UInt8) (k : Nat) (h : k < l.length) : l.take (k + 1) = l.take k ++ [l[k]?.getD 0] := by
  rw [List.take_succ_eq_append_getElem h]; simp [List.getElem?_eq_getElem h]

/-! ### Numbers -/
theorem step_num (x : Nat) (b : UInt8) (hx : x < 18446744073709551616) : IntKind.u64.wrap (IntKind.u64.wrap ((x : Int) * 256) + IntKind.u64.wrap (b.toNat : Int)) = ((x * 256 + b.toNat) % 18446744073709551616 : Nat) := by
  have := b.toNat_lt
  simp only [IntKind.wrap_u64]
  omega

theorem step_num8 (x : Nat) (b : UInt8) (hx : x < 18446744073709551616) : bits .or .u64 (IntKind.u64.wrap ((x : Int) * 256)) (IntKind.u64.wrap (b.toNat : Int)) = ((x * 256 + b.toNat) % 18446744073709551616 : Nat) := by
  have hb := b.toNat_lt
  have e1 : IntKind.u64.wrap ((x : Int) * 256) = ((x * 256 % 18446744073709551616 : Nat) : Int) := by rw [IntKind.wrap_u64]; omega
  have e2 : IntKind.u64.wrap (b.toNat : Int) = (b.toNat : Int) := by rw [IntKind.wrap_u64]; omega
  rw [e1, e2, or_u64 _ _ (Nat.mod_lt _ (by decide)) (by omega)]
  have e3 : x * 256 % 18446744073709551616 = 2 ^ 8 * (x % 72057594037927936) := by
    rw [show 18446744073709551616 = 256 * 72057594037927936 by decide, Nat.mul_comm x, Nat.mul_mod_mul_left]
  rw [e3, ← Nat.two_pow_add_eq_or_of_lt (by simpa using hb)]
  congr 1
  rw [← e3]
  omega

end Go.Proofs.Ytkmpdkkggdcpbaa
