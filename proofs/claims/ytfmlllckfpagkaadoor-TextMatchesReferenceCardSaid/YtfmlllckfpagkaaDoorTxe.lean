/-
  What the variables hold for the walks of layer 14; errors of package fault as the laws tell them; arrays of 16 bytes compared. Contract of the law's own function told.
-/
import Derived.Test.YtfmlllckfpagkaaDoorTxd
import Derived.Test.YtfmlllckfpagkaaDoorFlb
import Derived.Lib.Hide
namespace Go.Proofs.YtfmlllckfpagkaaDoor
open Go.RowKit
set_option linter.unusedVariables false
set_option maxRecDepth 100000

/-- The error of a code and an offset; (0, ..): none. -/
def fauV (p : Nat × Nat) : Value := if p.1 = 0 then .nilIface else .iface 56 (.agg #[.int .i64 (p.1 : Nat), .int .i64 (p.2 : Nat)])
theorem fauV_no {p : Nat × Nat} (h : p.1 = 0) : fauV p = .nilIface := if_pos h
theorem fauV_is {p : Nat × Nat} (h : p.1 ≠ 0) : fauV p = .iface 56 (.agg #[.int .i64 (p.1 : Nat), .int .i64 (p.2 : Nat)]) := if_neg h
theorem err_keep {w w' : World} (h : ErrType w) (hb : Below w.heap.size w w') : ErrType w' := (hb.cell (p := ⟨1, 0, none⟩) (block_lt h)).trans h
theorem eq16t_true {f g : Nat → Nat} (h : ∀ j, j < 16 → f j = g j) (w : World) : (Op.equalIn 10000 22 (.agg (arL 16 f).toArray) (.agg (arL 16 g).toArray)).run Tryd.prog w = .ok true w := by
  have := run_equalIn_arr (P := Tryd.prog) (n := 16) Tryd.arr16x Tryd.underlying5 (by kernel_rfl) 9998 f g w
  rwa [decide_eq_true h] at this
theorem Tryd.eqg16t : Tryd.prog.eqGuardType Tryd.prog.depth 22 = false := by kernel_rfl
theorem eqs_true {a b : ByteArray} (h : a = b) (w : World) : (binOp .eql 9 (.string a) (.string b)).run Tryd.prog w = .ok (.bool true) w := by
  subst h
  rw [binOp_string_eql]
  simp
theorem told_nil0 (a : Int) (w : World) : Calls Tryd.prog 12 #[.nilIface, .int .i64 0, .int .i64 a] w fun e w' => e = .returned (.bool true) ∧ Below w.heap.size w w' := by
  go_enter Tryd.func12, Tryd.ntmps12
  go_wp2_with fail
  go_ret
  exact ⟨rfl, Below.refl _ _⟩
set_option maxHeartbeats 1600000 in
theorem told_is (c a : Int) (w : World) (hc : c ≠ 0) (hE : ErrType w) : Calls Tryd.prog 12 #[.iface 56 (.agg #[.int .i64 c, .int .i64 a]), .int .i64 c, .int .i64 a] w fun e w' => e = .returned (.bool true) ∧ Below w.heap.size w w' := by
  have HE := Lib.hid hE
  clear hE
  go_enter Tryd.func12, Tryd.ntmps12
  go_wp2_with fail
  refine (code (.fault c a) w HE.out).mono ?_
  rintro e w1 ⟨rfl, h1⟩
  rw [show codRes (Er.fault c a).cod = .tuple #[.int .i64 c, .bool true] from rfl]
  go_wp2_with fail
  refine (offs (.fault c a) w1 (err_keep HE.out h1)).mono ?_
  rintro e w2 ⟨rfl, h2⟩
  rw [show codRes (Er.fault c a).off = .tuple #[.int .i64 a, .bool true] from rfl]
  go_wp2_with fail
  go_ret
  exact ⟨rfl, h1.trans (h2.mono h1.size)⟩
theorem told_pa (p : Nat × Nat) (w : World) (hE : ErrType w) : Calls Tryd.prog 12 #[fauV p, .int .i64 (p.1 : Nat), .int .i64 (p.2 : Nat)] w fun e w' => e = .returned (.bool true) ∧ Below w.heap.size w w' := by
  by_cases h : p.1 = 0
  · rw [fauV_no h, h]; exact told_nil0 _ w
  · rw [fauV_is h]; exact told_is _ _ w (by omega) hE
end Go.Proofs.YtfmlllckfpagkaaDoor
