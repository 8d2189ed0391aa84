/-
  Contracts of layer 9 and its reference at the very arguments that its laws have: what is returned as doubles of the star block.
-/
import Derived.Test.YtblhfmlgpldaeaaDoorTbc
import Derived.Test.YtblhfmlgpldaeaaDoorTbd
namespace Go.Proofs.YtblhfmlgpldaeaaDoor
open Go.RowKit
set_option linter.unusedVariables false
set_option maxRecDepth 100000

theorem tat0 (v : Value) (p : Option Addr) (s : Nat → Nat) (w : World) (hv : TabV w v p s) :
    Calls Tryd.prog 27 #[v, .int .i64 0] w fun e w' => e = .returned (.agg (arL 16 (dk s 2)).toArray) ∧ Below w.heap.size w w' := tat_in v p s 0 w (by omega) hv
theorem tat0q (v : Value) (p : Option Addr) (s : Nat → Nat) (q : Nat) (w : World) (hq : q = 2) (hv : TabV w v p s) :
    Calls Tryd.prog 27 #[v, .int .i64 0] w fun e w' => e = .returned (.agg (arL 16 (dk s q)).toArray) ∧ Below w.heap.size w w' := by subst hq; exact tat0 v p s w hv
theorem wrap_in (k : Nat) (h : k < 9223372036854775808) : IntKind.i64.wrap (k : Int) = (k : Int) := by rw [wraps_i64' _ (by omega) (by omega)]
theorem dbl_facts (n m : Nat) (hm : 2 * n = m) (hn : m < 18446744073709551616) : IntKind.u64.wrap (m : Int) = (m : Int) ∧ 2 * (n : Int) = (m : Int) := by
  have h : 2 * (n : Int) = (m : Int) := by omega
  refine ⟨?_, h⟩
  rw [IntKind.wrap_u64]
  omega
theorem tforp (v : Value) (p : Option Addr) (s : Nat → Nat) (n k : Nat) (w : World) (h0 : n ≠ 0) (hn : n < 18446744073709551616) (hk : zer n + 2 = k) (hv : TabV w v p s) :
    Calls Tryd.prog 40 #[v, .int .u64 n] w fun e w' => e = .returned (.agg (arL 16 (dk s k)).toArray) ∧ Below w.heap.size w w' := by
  have h := tfor v p s n w hn hv
  have h1 := zer_lt n h0 hn
  unfold atI at h
  rw [if_pos (by omega), Int.toNat_natCast, hk] at h
  exact h
theorem tfor0 (v : Value) (p : Option Addr) (s : Nat → Nat) (w : World) (hv : TabV w v p s) :
    Calls Tryd.prog 40 #[v, .int .u64 0] w fun e w' => e = .returned (.agg (arL 16 (fun _ => 0)).toArray) ∧ Below w.heap.size w w' := by
  have h := tfor v p s 0 w (by omega) hv
  unfold atI at h
  rw [zer_zero, if_neg (by omega)] at h
  exact h
theorem tfor1 (v : Value) (p : Option Addr) (s : Nat → Nat) (w : World) (hv : TabV w v p s) :
    Calls Tryd.prog 40 #[v, .int .u64 1] w fun e w' => e = .returned (.agg (arL 16 (dk s 2)).toArray) ∧ Below w.heap.size w w' :=
  tforp v p s 1 2 w (by omega) (by omega) (by rw [zer_odd 1 rfl]) hv
theorem refdk (s : Nat → Nat) (k : Nat) (w : World) (hs : B16 s) :
    Calls Tryd.prog 65 #[.agg (arL 16 (dk s k)).toArray] w fun e w' => e = .returned (.agg (arL 16 (dk s (k + 1))).toArray) ∧ Below w.heap.size w w' := refdouble (dk s k) w (dk_lt hs k)
theorem refdk0 (s : Nat → Nat) (w : World) (hs : B16 s) :
    Calls Tryd.prog 65 #[.agg (arL 16 s).toArray] w fun e w' => e = .returned (.agg (arL 16 (dk s 1)).toArray) ∧ Below w.heap.size w w' := refdouble s w hs
theorem refatk (s : Nat → Nat) (k : Nat) (w : World) (hs : B16 s) (hk : k < 64) :
    Calls Tryd.prog 43 #[.agg (arL 16 s).toArray, .int .i64 k] w fun e w' => e = .returned (.agg (arL 16 (dk s (k + 2))).toArray) ∧ Below w.heap.size w w' := refat s (k + 2) k w hs (by omega) (by omega) (by omega)
theorem refatd (s : Nat → Nat) (w : World) (hs : B16 s) :
    Calls Tryd.prog 43 #[.agg (arL 16 s).toArray, .int .i64 (-1)] w fun e w' => e = .returned (.agg (arL 16 (dk s 1)).toArray) ∧ Below w.heap.size w w' := refat s 1 (-1) w hs (by omega) (by omega) (by omega)
end Go.Proofs.YtblhfmlgpldaeaaDoor
