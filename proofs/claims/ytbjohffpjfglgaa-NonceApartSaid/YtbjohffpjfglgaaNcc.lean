/-
  What the functions of package nonce give, in letters; comparisons of heads and of nonces; the literals of the examples.
-/
import Derived.Test.YtbjohffpjfglgaaNcb
namespace Go.Proofs.Ytbjohffpjfglgaa
open Go.RowKit
set_option linter.unusedVariables false
set_option maxRecDepth 100000


def okN (d : Int) (x : Nat) : Bool := decide ((d = 0 ∨ d = 1) ∧ x < 9223372036854775808)
def hdZ (d : Int) (x : Nat) : Nat → Nat := if okN d x then hdF d.toNat x else fun _ => 0
def noZ (d : Int) (x : Nat) : Nat → Nat := if okN d x then noF (hdF d.toNat x) else fun _ => 0
def phD (l : List UInt8) : Nat := if 8 ≤ l.length then hdD (l.take 8) else 0
def phX (l : List UInt8) : Nat := if 8 ≤ l.length then hdX (l.take 8) else 0
/-- The head in a nonce. -/
def tlL (n : Nat → Nat) : List UInt8 := liB 8 fun j => n (4 + j)
def four (n : Nat → Nat) : Bool := decide (n 0 = 0 ∧ n 1 = 0 ∧ n 2 = 0 ∧ n 3 = 0)
def paD (n : Nat → Nat) : Nat := if four n then hdD (tlL n) else 0
def paX (n : Nat → Nat) : Nat := if four n then hdX (tlL n) else 0
theorem ok_yes {d : Int} {x : Nat} (h1 : d = 0 ∨ d = 1) (h2 : x < 9223372036854775808) : okN d x = true := decide_eq_true ⟨h1, h2⟩
theorem ok_no {d : Int} {x : Nat} (h : ¬ ((d = 0 ∨ d = 1) ∧ x < 9223372036854775808)) : okN d x = false := decide_eq_false h
def e8n (j : Nat) : Nat := if j = 0 then 128 else if j = 7 then 1 else 0
def e12n (j : Nat) : Nat := if j = 10 then 1 else if j = 11 then 2 else 0
theorem hd11 : ∀ j, j < 8 → hdZ 1 1 j = e8n j := by decide +kernel
theorem no02 : ∀ j, j < 12 → noZ 0 258 j = e12n j := by decide +kernel
theorem run_e8n (w : World) : (Instr.build 24 #[(0, .int .u8 128), (1, .int .u8 0), (2, .int .u8 0), (3, .int .u8 0), (4, .int .u8 0), (5, .int .u8 0), (6, .int .u8 0), (7, .int .u8 1)]).run Try.prog w = .ok (.agg (arL 8 e8n).toArray) w := run_build w _ _ _ (by kernel_rfl)
theorem run_e12n (w : World) : (Instr.build 27 #[(10, .int .u8 1), (11, .int .u8 2)]).run Try.prog w = .ok (.agg (arL 12 e12n).toArray) w := run_build w _ _ _ (by kernel_rfl)

theorem eqn8_true {f g : Nat → Nat} (h : ∀ j, j < 8 → f j = g j) (w : World) : (Op.equalIn 10000 24 (.agg (arL 8 f).toArray) (.agg (arL 8 g).toArray)).run Try.prog w = .ok true w := by
  have := run_equalIn_arr (P := Try.prog) (n := 8) Try.arr8n Try.underlying5 (by kernel_rfl) 9998 f g w
  rwa [decide_eq_true h] at this
theorem eqn8_false {f g : Nat → Nat} (h : ¬ ∀ j, j < 8 → f j = g j) (w : World) : (Op.equalIn 10000 24 (.agg (arL 8 f).toArray) (.agg (arL 8 g).toArray)).run Try.prog w = .ok false w := by
  have := run_equalIn_arr (P := Try.prog) (n := 8) Try.arr8n Try.underlying5 (by kernel_rfl) 9998 f g w
  rwa [decide_eq_false h] at this
theorem Try.eqgn8 : Try.prog.eqGuardType Try.prog.depth 24 = false := by kernel_rfl
theorem zeron8 (w : World) : (Instr.build 24 #[]).run Try.prog w = .ok (.agg (arL 8 fun _ => 0).toArray) w := run_build w _ _ _ (by kernel_rfl)

theorem eqn12_true {f g : Nat → Nat} (h : ∀ j, j < 12 → f j = g j) (w : World) : (Op.equalIn 10000 27 (.agg (arL 12 f).toArray) (.agg (arL 12 g).toArray)).run Try.prog w = .ok true w := by
  have := run_equalIn_arr (P := Try.prog) (n := 12) Try.arr12n Try.underlying5 (by kernel_rfl) 9998 f g w
  rwa [decide_eq_true h] at this
theorem eqn12_false {f g : Nat → Nat} (h : ¬ ∀ j, j < 12 → f j = g j) (w : World) : (Op.equalIn 10000 27 (.agg (arL 12 f).toArray) (.agg (arL 12 g).toArray)).run Try.prog w = .ok false w := by
  have := run_equalIn_arr (P := Try.prog) (n := 12) Try.arr12n Try.underlying5 (by kernel_rfl) 9998 f g w
  rwa [decide_eq_false h] at this
theorem Try.eqgn12 : Try.prog.eqGuardType Try.prog.depth 27 = false := by kernel_rfl
theorem zeron12 (w : World) : (Instr.build 27 #[]).run Try.prog w = .ok (.agg (arL 12 fun _ => 0).toArray) w := run_build w _ _ _ (by kernel_rfl)
end Go.Proofs.Ytbjohffpjfglgaa
