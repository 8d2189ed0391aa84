/-
  The walks of the laws KeysConstants and KeysFollow of layer 5: for every number, and every key, they return true, and write nothing that was there.
-/
import Derived.Test.YtdfponbfgcfpdaaDoorKee
import Derived.Test.YtdfponbfgcfpdaaDoorKex
namespace Go.Proofs.YtdfponbfgcfpdaaDoor
open Go.RowKit
set_option linter.unusedVariables false
set_option maxRecDepth 100000

set_option maxHeartbeats 1600000 in
theorem kconstants (z : Int) (w : World) (hz : -9223372036854775808 ≤ z ∧ z ≤ 9223372036854775807) (h : Boxes w) :
    Calls Tryd.prog 4 #[.int .i64 z] w fun e w' => e = .returned (.bool true) ∧ Below w.heap.size w w' := by
  by_cases hin : 1 ≤ z ∧ z ≤ 10
  · obtain ⟨m, hm⟩ : ∃ m : Nat, z = ((m + 1 : Nat) : Int) := ⟨(z - 1).toNat, by omega⟩
    subst hm
    have e1 : wrap64 (((m + 1 : Nat) : Int) - 1) = (m : Int) := by rw [IntWalk.wrap64_in _ (by omega)]; omega
    have e2 : ((m + 1 : Nat) : Int) - 1 = (m : Int) := by omega
    have i1 : ¬ (((m + 1 : Nat) : Int) < 1) := by omega
    have i2 : ¬ ((10 : Int) < ((m + 1 : Nat) : Int)) := by omega
    clear hz
    go_enter Tryd.func4, Tryd.ntmps4
    go_wp2_with fail
    refine (kawake _ h).mono ?_
    rintro e w1 ⟨rfl, k1⟩
    go_wp2_with fail
    refine (kconst (m + 1) _ (by omega) (by omega)).mono ?_
    rintro e w2 ⟨rfl, k2⟩
    rw [show m + 1 - 1 = m by omega]
    have k2 := k1.trans (k2.mono k1.size)
    clear k1
    go_wp2_with fail
    refine (refpow 2 m _ (by omega) (by omega)).mono ?_
    rintro e w3 ⟨rfl, k3⟩
    have k3 := k2.trans (k3.mono k2.size)
    clear k2
    go_wp2_with fail
    go_ret
    exact ⟨rfl, k3⟩
  · have hno : z < 1 ∨ (¬ z < 1 ∧ 10 < z) := by omega
    have hno2 : z < 1 ∨ 10 < z := by omega
    have HN := Lib.hid hno2
    clear hin hno2
    rcases hno with hl | ⟨hl, hr⟩
    all_goals
      go_enter Tryd.func4, Tryd.ntmps4
      go_wp2_with fail
      refine (kawake _ h).mono ?_
      rintro e w1 ⟨rfl, k1⟩
      go_wp2_with fail
      refine (kconst_no z _ HN.out).mono ?_
      rintro e w2 ⟨rfl, rfl⟩
      go_wp2_with fail
      go_ret
      exact ⟨rfl, k1⟩
end Go.Proofs.YtdfponbfgcfpdaaDoor
