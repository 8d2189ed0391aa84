/-
  Blocks of 16 bytes compared and written out, blocks of 24 bytes loaded, for the laws of layer 8. No condition.
-/
import Derived.Test.YtejgeefhnpeejaaBke
import Derived.Test.YtejgeefhnpeejaaBkf
import Derived.Test.YtejgeefhnpeejaaArg
namespace Go.Proofs.Ytejgeefhnpeejaa
open Go.RowKit
set_option linter.unusedVariables false
set_option maxRecDepth 100000

theorem eqx_true {f g : Nat → Nat} (h : ∀ j, j < 16 → f j = g j) (w : World) : (Op.equalIn 10000 22 (.agg (arL 16 f).toArray) (.agg (arL 16 g).toArray)).run Try.prog w = .ok true w := by
  have := run_equalIn_arr (P := Try.prog) (n := 16) Try.arr16x Try.underlying5 (by kernel_rfl) 9998 f g w
  rwa [decide_eq_true h] at this
theorem eqx_false {f g : Nat → Nat} (h : ¬ ∀ j, j < 16 → f j = g j) (w : World) : (Op.equalIn 10000 22 (.agg (arL 16 f).toArray) (.agg (arL 16 g).toArray)).run Try.prog w = .ok false w := by
  have := run_equalIn_arr (P := Try.prog) (n := 16) Try.arr16x Try.underlying5 (by kernel_rfl) 9998 f g w
  rwa [decide_eq_false h] at this
theorem Try.eqgx : Try.prog.eqGuardType Try.prog.depth 22 = false := by kernel_rfl
theorem Try.zero24x : (Try.prog.info? 27).map (fun i => (i.zero, i.size)) = some (some (.agg (Array.replicate 24 (.int .u8 0))), 24) := by kernel_rfl
theorem size24x (f : Nat → Nat) : (Try.prog.info? 27).map (·.size) = some (arL 24 f).length := by rw [arL_len]; exact (zero_of_info Try.zero24x).2
theorem run_bx0 (w : World) : (Instr.build 22 #[]).run Try.prog w = .ok (.agg (arL 16 fun _ => 0).toArray) w := run_build w _ _ _ (by kernel_rfl)
theorem run_bx128 (w : World) : (Instr.build 22 #[(0, .int .u8 128)]).run Try.prog w = .ok (.agg (arL 16 (lst [128])).toArray) w := run_build w _ _ _ (by kernel_rfl)
theorem run_bx2 (w : World) : (Instr.build 22 #[(0, .int .u8 2)]).run Try.prog w = .ok (.agg (arL 16 (lst [2])).toArray) w := run_build w _ _ _ (by kernel_rfl)
theorem run_bx7 (w : World) : (Instr.build 22 #[(0, .int .u8 7), (1, .int .u8 128)]).run Try.prog w = .ok (.agg (arL 16 (lst [7, 128])).toArray) w := run_build w _ _ _ (by kernel_rfl)
theorem run_bx135 (w : World) : (Instr.build 22 #[(15, .int .u8 135)]).run Try.prog w = .ok (.agg (arL 16 (lst [0, 0, 0, 0, 0, 0, 0, 0, 0, 0, 0, 0, 0, 0, 0, 135])).toArray) w := run_build w _ _ _ (by kernel_rfl)
theorem run_by1 (w : World) : (Instr.build 27 #[(0, .int .u8 1)]).run Try.prog w = .ok (.agg (arL 24 (lst [1])).toArray) w := run_build w _ _ _ (by kernel_rfl)
theorem sl_one {w : World} {g x : Nat} (hg : g = w.heap.size) (hx : x < 256) :
    Sl (w.alloc (.cells #[.int .u8 (x : Int)] 5)) (w.alloc (.cells #[.int .u8 (x : Int)] 5)).heap.size (some ⟨g, 0, none⟩) 1 [UInt8.ofNat x] := by
  subst hg
  refine ⟨rfl, fun _ => ⟨w.heap.size, 0, rfl, by simp, fun j u hu => ?_⟩⟩
  rw [World.cell?_alloc_at _ _ _ _ rfl]
  rcases j with _ | j
  · simp at hu; subst hu; rw [b8_ofNat _ hx]; rfl
  · simp at hu
theorem lst_lt (l : List Nat) (h : ∀ x ∈ l, x < 256) (j : Nat) : lst l j < 256 := by
  unfold lst
  rcases Nat.lt_or_ge j l.length with h1 | h1
  · rw [List.getD_eq_getElem?_getD, List.getElem?_eq_getElem h1]; exact h _ (List.getElem_mem h1)
  · rw [List.getD_eq_getElem?_getD, List.getElem?_eq_none h1]; decide
theorem dec16 {f g : Nat → Nat} (h : ((List.range 16).all fun j => f j == g j) = true) (j : Nat) (hj : j < 16) : f j = g j := by
  have := List.all_eq_true.1 h j (List.mem_range.2 hj)
  simpa using this
theorem aw_db : ∀ j, j < 16 → dbF (lst [128]) j = lst [0, 0, 0, 0, 0, 0, 0, 0, 0, 0, 0, 0, 0, 0, 0, 135] j := dec16 (by decide +kernel)
theorem aw_hv : ∀ j, j < 16 → hvF (lst [0, 0, 0, 0, 0, 0, 0, 0, 0, 0, 0, 0, 0, 0, 0, 135]) j = lst [128] j := dec16 (by decide +kernel)
theorem aw_sh : ∀ j, j < 16 → shB (cut 24 (lst [1])) (clampN 1) j = lst [2] j := dec16 (by decide +kernel)
theorem aw_pad : ∀ j, j < 16 → lF (padL [UInt8.ofNat 7] 16) j = lst [7, 128] j := dec16 (by decide +kernel)
theorem lst_seven : lst [7, 128] 0 = lF [UInt8.ofNat 7] 0 := by decide +kernel
theorem lst_tail (j : Nat) (h1 : 1 < j) (h2 : j < 16) : lst [7, 128] j = 0 := by
  have h : ∀ j, j < 16 → 1 < j → lst [7, 128] j = 0 := by decide +kernel
  exact h j h2 h1
theorem run_nf (c : Array Value) (V : World) : (binOp .neq 37 (.func (.func 27) #[] c) .nilFunc).run Try.prog V = .ok (.bool true) V := by kernel_rfl
/-- What Unpad says of a padded block. -/
theorem unp_pad {w w' : World} {f : Nat → Nat} {e : Ending} {n : Nat} (h : Unp w w' f e) (hn : n < 16) (h1 : f n = 128) (h2 : ∀ j, n < j → j < 16 → f j = 0) :
    ∃ g, e = .returned (.tuple #[.slice (some ⟨g, 0, none⟩) n n, .bool true]) ∧ Ar w' g n f ∧ w.heap.size ≤ g ∧ g < w'.heap.size ∧ Below w.heap.size w w' := by
  rcases h with ⟨m, g, hm, e1, e2, rfl, hA, hg, hl, hB⟩ | ⟨hno, _, _⟩
  · obtain rfl : m = n := by
      by_cases h3 : m < n
      · have := e2 n h3 hn; omega
      · by_cases h4 : n < m
        · have := h2 m h4 hm; omega
        · omega
    exact ⟨g, rfl, hA, hg, hl, hB⟩
  · obtain ⟨j, hj1, hj2, hj3⟩ := hno n hn h1
    exact absurd (h2 j hj1 hj2) hj3
end Go.Proofs.Ytejgeefhnpeejaa
