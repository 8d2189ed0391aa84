/-
  Contracts of keys.Constant and keys.turn, by walks through their texts; what was there stays as it was.
-/
import Derived.Test.YtghcpfcomhfppaaDoorFre
import Derived.Test.YtghcpfcomhfppaaDoorFiy
import Derived.Test.YtghcpfcomhfppaaDoorSbw
namespace Go.Proofs.YtghcpfcomhfppaaDoor
open Go.RowKit
set_option linter.unusedVariables false
set_option maxRecDepth 10000

set_option maxHeartbeats 400000 in
theorem kconst (n : Nat) (w : World) (h1 : 1 ≤ n) (h2 : n ≤ 10) :
    Calls Tryd.prog 53 #[.int .i64 n] w fun e w' => e = .returned (.int .u8 (pwr 2 (n - 1) : Nat)) ∧ Below w.heap.size w w' := by
  obtain ⟨m, hm⟩ : ∃ m : Nat, n = m + 1 := ⟨n - 1, by omega⟩
  subst hm
  have e1 : wrap64 (((m + 1 : Nat) : Int) - 1) = (m : Int) := by rw [IntWalk.wrap64_in _ (by omega)]; omega
  have e2 : ((m + 1 : Nat) : Int) - 1 = (m : Int) := by omega
  have i1 : ¬ (((m + 1 : Nat) : Int) < 1) := by omega
  have i2 : ¬ ((10 : Int) < ((m + 1 : Nat) : Int)) := by omega
  go_enter Tryd.func53, Tryd.ntmps53
  go_wp2_with fail
  refine (fpow 2 m _ (by omega) (by omega)).mono ?_
  rintro e w1 ⟨rfl, hb⟩
  go_wp2_with fail
  go_ret
  exact ⟨rfl, hb⟩
set_option maxHeartbeats 400000 in
theorem kconst_no (z : Int) (w : World) (h : z < 1 ∨ 10 < z) :
    Calls Tryd.prog 53 #[.int .i64 z] w fun e w' => e = .returned (.int .u8 0) ∧ w' = w := by
  rcases h with h | h
  · go_enter Tryd.func53, Tryd.ntmps53
    go_wp2_with fail
    go_ret
    exact ⟨rfl, rfl⟩
  · have h2 : ¬ z < 1 := by omega
    go_enter Tryd.func53, Tryd.ntmps53
    go_wp2_with fail
    go_ret
    exact ⟨rfl, rfl⟩

set_option maxHeartbeats 400000 in
theorem kturn (x n : Nat) (w : World) (hx : x < 4294967296) (h1 : 1 ≤ n) (h2 : n ≤ 10) (h : Boxes w) :
    Calls Tryd.prog 46 #[.int .u32 x, .int .i64 n] w fun e w' => e = .returned (.int .u32 (trn x (pwr 2 (n - 1)) : Nat)) ∧ Below w.heap.size w w' := by
  have hl := rot8_lt x hx
  have hp := pwr_lt 2 (n - 1)
  have hsl := sbw_lt (rot8 x)
  have hxx : Hid (bits BinOp.xor IntKind.u32 ((sbw (rot8 x) : Nat) : Int) (((pwr 2 (n - 1) : Nat) : Int) * 16777216) = ((trn x (pwr 2 (n - 1)) : Nat) : Int)) := by
    unfold Hid trn
    have := bits_xor_nat .u32 32 (by decide) wraps_u32' (sbw (rot8 x)) (pwr 2 (n - 1) * 16777216) hsl (by omega)
    rw [← this]; simp
  go_enter Tryd.func46, Tryd.ntmps46
  go_wp2_with fail
  refine (rotl32 x _ hx).mono ?_
  rintro e w1 ⟨rfl, rfl⟩
  go_wp2_with fail
  refine (sboxWord _ _ hl h).mono ?_
  rintro e w2 ⟨rfl, rfl⟩
  go_wp2_with fail
  refine (kconst n _ h1 h2).mono ?_
  rintro e w3 ⟨rfl, hb⟩
  go_wp2_with fail
  go_ret
  exact ⟨fret_of hxx.out, hb⟩
end Go.Proofs.YtghcpfcomhfppaaDoor
