/-
  Contracts of the powers in package field, by walks through its text, for any byte and any number; what was there stays as it was.
-/
import Derived.Test.YtghcpfcomhfppaaDoorFip
namespace Go.Proofs.YtghcpfcomhfppaaDoor
open Go.RowKit
set_option linter.unusedVariables false
set_option maxRecDepth 10000

theorem fpow (a n : Nat) (w : World) (ha : a < 256) (hn : n < 9223372036854775808) :
    Calls Tryd.prog 55 #[.int .u8 a, .int .i64 n] w fun e w' => e = .returned (.int .u8 (pwr a n : Nat)) ∧ Below w.heap.size w w' := by
  go_enter Tryd.func55, Tryd.ntmps55
  go_wp2_with fail
  refine (fraise a n _ ha (by omega)).mono ?_
  rintro e w1 ⟨rfl, hb1⟩
  go_wp2_with fail
  go_ret
  exact ⟨rfl, hb1⟩

theorem fpow_neg (a n : Nat) (w : World) (ha : a < 256) (h0 : 0 < n) (hn : n < 9223372036854775808) :
    Calls Tryd.prog 55 #[.int .u8 a, .int .i64 (-(n : Int))] w fun e w' => e = .returned (.int .u8 (pwr (inv a) n : Nat)) ∧ Below w.heap.size w w' := by
  have h1 : IntKind.u64.wrap (-IntKind.u64.wrap (-(n : Int))) = (n : Int) := by simp only [IntKind.wrap_u64]; omega
  have hneg : -(n : Int) < 0 := by omega
  go_enter Tryd.func55, Tryd.ntmps55
  go_wp2_with fail
  refine (finv a _ ha).mono ?_
  rintro e w1 ⟨rfl, hb1⟩
  go_wp2_with fail
  refine (fraise (inv a) n _ (inv_lt a) (by omega)).mono ?_
  rintro e w2 ⟨rfl, hb2⟩
  go_wp2_with fail
  go_ret
  exact ⟨rfl, hb1.trans (hb2.mono hb1.size)⟩
end Go.Proofs.YtghcpfcomhfppaaDoor
