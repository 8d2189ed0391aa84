/-
  The frame of the laws of layer 2, second part: a world that meets the condition on the listed variables; a description of an error among the arguments. No condition.
-/
import Derived.Test.YtiddiahlodlmlaaDoorLaid
namespace Go.Proofs.YtiddiahlodlmlaaDoor
open Go.ChangeShapes Go.WideShapes Go.RowKit Go.Deep
set_option linter.unusedVariables false
set_option maxRecDepth 100000

/-! ### A world that meets the condition -/
noncomputable def laidBase (os : Os) : World :=
  let w0 := World.holding Tryd.prog os ⟨#[], #[], []⟩
  { w0 with heap := w0.heap.modify 1 fun
      | .cells _ t frozen => .cells #[.iface 80 (.agg #[.pointer (some ⟨5, 28, none⟩)])] t frozen
      | o => o }
noncomputable def laidWorld (os : Os) : World := (laidBase os).layVars Tryd.prog laidD
theorem laidWorld_data (os : Os) : laidMet Tryd.prog laidD (laidWorld os) := by
  have e1 : (laidD.filter fun x => (laidD.map (·.1)).contains x.1) = laidD := List.filter_eq_self.2 fun x hx => List.contains_iff_mem.2 (List.mem_map.2 ⟨x, hx, rfl⟩)
  have e2 : (laidD.filter fun x => !(laidD.map (·.1)).contains x.1) = [] := List.filter_eq_nil_iff.2 fun x hx => by rw [List.contains_iff_mem.2 (List.mem_map.2 ⟨x, hx, rfl⟩)]; simp
  exact laidMet_layVars (w0 := laidBase os) (laidD.map (·.1)) [] (by rw [e1]; rfl) (by rw [e1]; kernel_rfl) (by rw [e1]; kernel_rfl) (by rw [e2]; exact LaidIn.none)
theorem laidWorld_met (os : Os) (args : Array Value) : laidMetH Tryd.prog laidL ((laidWorld os).forCall (fun _ _ => 0) ⟨#[], args, []⟩).memory :=
  laidMetH_of_parts ((laidWorld_data os).of_heap (by simp [World.memory, World.forCall, Input.heap])) (by kernel_rfl)

/-! ### A description of an error -/
section
variable {H : Type} {enc : TypeId × Value → H} {W : World} {base : Nat} {r : Reach} {v : Value} {d : DataW H} {p : List MemPlace}
theorem open_err (hv : Value.okWide Tryd.prog W r base 24 v) (h : DataW.Trod enc Tryd.prog W 0 (fun _ => true) true 24 v d p) :
    ∃ (nl : Bool) (A : Option Addr) (n c : Nat) (cd a : Int) (f : Bool) (l : List ByteArray), v = .agg #[.bool nl, .slice A n c, .int .i64 cd, .int .i64 a, .bool f] ∧ Ss W W.heap.size A n l ∧ n ≤ 9223372036854775807 ∧
      (-9223372036854775808 ≤ cd ∧ cd ≤ 9223372036854775807) ∧ (-9223372036854775808 ≤ a ∧ a ≤ 9223372036854775807) := by
  obtain ⟨cs, rfl, hsz⟩ := okWide_struct Tryd.underlying24 hv
  have hC : Tryd.prog.cellsOf 24 = 5 := by kernel_rfl
  obtain ⟨fuel, hf⟩ := h
  obtain ⟨xs, m, rfl, hx, _, hlen, hg⟩ := DataW.trod_struct Tryd.underlying24 hf
  have k1 : Tryd.prog.cellsOf 4 = 1 := by kernel_rfl
  have k2 : Tryd.prog.cellsOf 22 = 1 := by kernel_rfl
  have k3 : Tryd.prog.cellsOf 3 = 1 := by kernel_rfl
  obtain ⟨L⟩ := cs
  match L, hsz.trans hC with
  | [u0, u1, u2, u3, u4], _ =>
    match xs, hlen with
    | [y0, y1, y2, y3, y4], _ =>
      have h0 := hg 0 _ rfl
      have h1 := hg 1 _ rfl
      have h2 := hg 2 _ rfl
      have h3 := hg 3 _ rfl
      have h4 := hg 4 _ rfl
      simp [Value.cells, k1, k2, k3] at h0 h1 h2 h3 h4
      obtain ⟨nl, e0, _⟩ := DataW.trod_bool Tryd.underlying4 h0
      obtain ⟨cd, e2, _, w2⟩ := DataW.trod_int Tryd.underlying3 h2
      obtain ⟨a, e3, _, w3⟩ := DataW.trod_int Tryd.underlying3 h3
      obtain ⟨f, e4, _⟩ := DataW.trod_bool Tryd.underlying4 h4
      simp at e0 e2 e3 e4
      subst e0 e2 e3 e4
      have hcd : -9223372036854775808 ≤ cd ∧ cd ≤ 9223372036854775807 := by simpa [Lit.wf, IntKind.min, IntKind.max, IntKind.signed, IntKind.bits] using w2
      have ha : -9223372036854775808 ≤ a ∧ a ≤ 9223372036854775807 := by simpa [Lit.wf, IntKind.min, IntKind.max, IntKind.signed, IntKind.bits] using w3
      rcases open_strings Tryd.underlying22 Tryd.underlying9 (by kernel_rfl) h1 with ⟨hcs, _⟩ | ⟨x, n, c, ss, hcs, _, hl, hm, hz, _, hcell, hsz⟩
      · simp at hcs
        subst hcs
        exact ⟨nl, none, 0, 0, cd, a, f, [], rfl, ⟨rfl, fun h => absurd h (by omega)⟩, by omega, hcd, ha⟩
      · simp at hcs
        subst hcs
        have hm' : c ≤ 9223372036854775807 := by unfold maxLen at hm; exact hm
        refine ⟨nl, some x, n, c, cd, a, f, ss.take n, rfl, ⟨by simp at hz ⊢; omega, fun hn => ?_⟩, by omega, hcd, ha⟩
        simp at hz
        obtain ⟨b, off, spot⟩ := x
        have hc0 := hcell 0 (by omega)
        have hspot : spot = none := by simpa [Addr.add] using World.cell?_spot hc0
        subst hspot
        have hadd : ∀ i, (⟨b, off, none⟩ : Addr).add i = ⟨b, off + i, none⟩ := fun i => by unfold Addr.add; split <;> simp_all
        rw [hadd] at hc0
        refine ⟨b, off, rfl, block_lt hc0, fun j u hu => ?_⟩
        have hj : j < n := by
          rcases Nat.lt_or_ge j n with h | h
          · exact h
          · rw [List.getElem?_eq_none (by simp; omega)] at hu; cases hu
        rw [List.getElem?_take_of_lt hj] at hu
        rw [← hadd, hcell j (by omega), List.getD_eq_getElem?_getD, hu]
        rfl
end
end Go.Proofs.YtiddiahlodlmlaaDoor
