/-
  Errors that are codes of package api: their values, how they are compared, and the laws' function that compares an error with a code. No condition; nothing is written.
-/
import Derived.Test.YtoeifogkfookiaaGbt
namespace Go.Proofs.Ytoeifogkfookiaa
open Go.RowKit
set_option linter.unusedVariables false
set_option linter.unusedSimpArgs false
set_option maxRecDepth 100000
/-- The error with a code; 0: none. -/
def erC (C : Nat) : Value := if C = 0 then .nilIface else .iface 42 (.int .i64 (C : Int))
theorem erC_no {C : Nat} (h : C = 0) : erC C = .nilIface := if_pos h
theorem erC_is {C : Nat} (h : C ≠ 0) : erC C = .iface 42 (.int .i64 (C : Int)) := if_neg h
theorem erEqC (t : Nat) (v : Value) (w : World) : (binOp .eql 32 (.iface t v) .nilIface).run Try.prog w = .ok (.bool false) w := by
  have h : ∀ d : Nat, (Op.equalIn (d + 1) 32 (.iface t v) .nilIface).run Try.prog w = .ok false w := fun d => by simp [Op.equalIn, run_underlying Try.underlying32]
  simp only [binOp]
  simp [Op.equal, Op.maxDepth, h 9999]
theorem erEq0C (t : Nat) (v : Value) (w : World) : (binOp .eql 32 .nilIface (.iface t v)).run Try.prog w = .ok (.bool false) w := by
  have h : ∀ d : Nat, (Op.equalIn (d + 1) 32 .nilIface (.iface t v)).run Try.prog w = .ok false w := fun d => by simp [Op.equalIn, run_underlying Try.underlying32]
  simp only [binOp]
  simp [Op.equal, Op.maxDepth, h 9999]
theorem erNeC (t : Nat) (v : Value) (w : World) : (binOp .neq 32 (.iface t v) .nilIface).run Try.prog w = .ok (.bool true) w := by
  have h : ∀ d : Nat, (Op.equalIn (d + 1) 32 (.iface t v) .nilIface).run Try.prog w = .ok false w := fun d => by simp [Op.equalIn, run_underlying Try.underlying32]
  simp only [binOp]
  simp [Op.equal, Op.maxDepth, h 9999]
theorem eqCdC (c x : Int) (w : World) : (binOp .eql 32 (.iface 42 (.int .i64 c)) (.iface 42 (.int .i64 x))).run Try.prog w = .ok (.bool (decide (c = x))) w := by
  obtain ⟨i, hi, hcmp⟩ := Option.map_eq_some_iff.1 (show (Try.prog.info? 42).map (·.comparable) = some true by kernel_rfl)
  have h : ∀ d : Nat, (Op.equalIn (d + 2) 32 (.iface 42 (.int .i64 c)) (.iface 42 (.int .i64 x))).run Try.prog w = .ok (decide (c = x)) w := fun d => by
    simp [Op.equalIn, run_underlying Try.underlying32, run_underlying Try.underlying42, typeInfo, hi, hcmp]
    rfl
  simp only [binOp]
  simp [Op.equal, Op.maxDepth, h 9998]
theorem eqCdTC (c : Int) (w : World) : (binOp .eql 32 (.iface 42 (.int .i64 c)) (.iface 42 (.int .i64 c))).run Try.prog w = .ok (.bool true) w := by
  rw [eqCdC, decide_eq_true rfl]

set_option maxHeartbeats 1600000 in
theorem told19 (C D : Nat) (w : World) :
    Calls Try.prog 13 #[erC C, .int .i64 (D : Int)] w fun e w' => e = .returned (.bool (decide (C = D))) ∧ w' = w := by
  have h3 := erEqC 42 (.int .i64 (C : Int)) w
  have h4 := erEq0C 42 (.int .i64 (IntKind.i64.wrap (D : Int))) w
  have h5 := eqCdC (C : Int) (D : Int) w
  by_cases hC : C = 0
  · subst hC
    rw [erC_no rfl]
    by_cases hD : D = 0
    · subst hD
      go_enter Try.func13, Try.ntmps13
      go_wp2_with fail
      go_ret
      exact ⟨rfl, rfl⟩
    · have i1 : ((D : Int) == 0) = false := by simp [hD]
      have i2 : ((D : Int) != 0) = true := by simp [hD]
      rw [decide_eq_false (fun e => hD e.symm)]
      have h6 := erEq0C 42 (.int .i64 (D : Int)) w
      clear hD h4 h5 h3
      go_enter Try.func13, Try.ntmps13
      go_wp2_with fail
      go_ret
      exact ⟨rfl, rfl⟩
  · rw [erC_is hC]
    by_cases hD : D = 0
    · subst hD
      rw [decide_eq_false hC]
      clear hC h4 h5
      go_enter Try.func13, Try.ntmps13
      go_wp2_with fail
      go_ret
      exact ⟨rfl, rfl⟩
    · have i1 : ((D : Int) == 0) = false := by simp [hD]
      have i2 : ((D : Int) != 0) = true := by simp [hD]
      rw [show decide ((C : Int) = (D : Int)) = decide (C = D) from decide_eq_decide.2 Int.ofNat_inj] at h5
      obtain ⟨b, hb⟩ : ∃ b, decide (C = D) = b := ⟨_, rfl⟩
      rw [hb] at h5 ⊢
      clear hC hD h4 h3 hb
      go_enter Try.func13, Try.ntmps13
      go_wp2_with fail
      go_ret
      exact ⟨rfl, rfl⟩

end Go.Proofs.Ytoeifogkfookiaa
