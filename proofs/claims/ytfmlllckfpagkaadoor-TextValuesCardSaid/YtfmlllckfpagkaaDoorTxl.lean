/-
  The frame of the laws of layer 14: what the listed package-level variables (the table of package text, the handle of package errors) give a walk; a world that meets that condition. No condition.
-/
import Derived.Test.YtfmlllckfpagkaaDoorTxv
import Derived.ChangeSame
import Derived.ChangeVars
import Derived.ChangeMaps5
import Derived.JoinedOf
import Derived.OpenShut
import Derived.ShutString
import Derived.Carry
import Derived.LaidLaws
import Derived.LaidHandle
import Derived.Lib.LaidU8
import Derived.Lay
namespace Go.Proofs.YtfmlllckfpagkaaDoor
open Go.ChangeShapes Go.WideShapes Go.RowKit
set_option linter.unusedVariables false
set_option maxRecDepth 100000

theorem own : ownKnob Tryd.prog.godebug = none := by kernel_rfl
theorem laidOut : laidOutB Tryd.prog = true := by kernel_rfl

def laidL : List (String × DataW Unit) := [("errors.errorType", Rows.laid_errors_errorType), ("mooring/text.values", Rows.laid_mooring_text_values)]
def laidD : List (String × DataW Unit) := laidL.filter fun x => x.2.handleName?.isNone
def laidH : List (String × DataW Unit) := laidL.filter fun x => x.2.handleName?.isSome
theorem laid_parts {W : World} (h : laidMetH Tryd.prog laidL W) : laidMet Tryd.prog laidD W ∧ handlesMet Tryd.prog laidH W := h

theorem Tryd.et : Tryd.prog.globalNamed "errors.errorType" = some 1 := by kernel_rfl
theorem Tryd.rt : (Tryd.prog.cutTypes.find? (·.1 == "internal/reflectlite.rtype")).map (·.2) = some 75 := by kernel_rfl
theorem Tryd.oneRow : ((List.range 121).filter fun t => Tryd.prog.rowNamed t [101, 114, 114, 111, 114]) = [26] := by kernel_rfl
theorem Tryd.tsize : Tryd.prog.types.size = 121 := by kernel_rfl
theorem err_of {W : World} (h : handlesMet Tryd.prog laidH W) : ErrType W := by
  obtain ⟨name, u, ty, e1, e2, e3, e4, e5⟩ := h ("errors.errorType", Rows.laid_errors_errorType) (List.mem_singleton.2 rfl)
  have en : name = [101, 114, 114, 111, 114] := (Option.some.inj e1).symm
  subst en
  obtain rfl := Option.some.inj (Tryd.rt.symm.trans e2)
  have hm : ty ∈ (List.range 121).filter fun t => Tryd.prog.rowNamed t [101, 114, 114, 111, 114] := List.mem_filter.2 ⟨List.mem_range.2 (by rw [← Tryd.tsize]; exact e3), e4⟩
  rw [Tryd.oneRow] at hm
  obtain rfl := List.mem_singleton.1 hm
  have hh : typeHandle Tryd.prog 26 = .pointer (some ⟨2, 26, none⟩) := by kernel_rfl
  rw [hh] at e5
  simpa [ErrType] using World.var?_cell Tryd.et e5 0
theorem tab_of {W : World} (h : laidMet Tryd.prog laidD W) : TcIs W := by
  obtain ⟨g, t, cs, fuel, p, h1, h2, h3, h4⟩ := Lib.laidMet.reads h (n := "mooring/text.values") (d := Rows.laid_mooring_text_values) (by
    show ("mooring/text.values", Rows.laid_mooring_text_values) ∈ laidD
    exact List.mem_filter.2 ⟨.tail _ (.head _), rfl⟩)
  have hg : Tryd.prog.globalNamed "mooring/text.values" = some 0 := by kernel_rfl
  obtain rfl := Option.some.inj (hg.symm.trans h1)
  have ht : (Tryd.prog.globals[0]?).map (·.type) = some 54 := by kernel_rfl
  obtain rfl := Option.some.inj (ht.symm.trans h2)
  have hd : (Rows.laid_mooring_text_values : DataW Unit) = Lib.tabData .i8 ((List.range 128).map fun (x : Nat) => tvI x) := by kernel_rfl
  rw [hd] at h4
  have hc := Lib.cells_of_tab Tryd.underlying54 Tryd.underlying53 (by kernel_rfl) (by kernel_rfl) h4
  intro v hv
  have := World.var?_cell hg h3 v
  rw [this, ← Array.getElem?_toList, hc, List.map_map, List.getElem?_map, List.getElem?_range hv]
  rfl
theorem tx_of {W : World} (h : laidMetH Tryd.prog laidL W) : TxG W := ⟨err_of (laid_parts h).2, tab_of (laid_parts h).1⟩

/-! ### A world that meets the condition -/
noncomputable def laidBase (os : Os) : World :=
  let w0 := World.holding Tryd.prog os ⟨#[], #[], []⟩
  { w0 with heap := w0.heap.modify 1 fun
      | .cells _ t frozen => .cells #[.iface 75 (.agg #[.pointer (some ⟨2, 26, none⟩)])] t frozen
      | o => o }
noncomputable def laidWorld (os : Os) : World := (laidBase os).layVars Tryd.prog laidD
theorem laidWorld_data (os : Os) : laidMet Tryd.prog laidD (laidWorld os) := by
  have e1 : (laidD.filter fun x => (laidD.map (·.1)).contains x.1) = laidD := List.filter_eq_self.2 fun x hx => List.contains_iff_mem.2 (List.mem_map.2 ⟨x, hx, rfl⟩)
  have e2 : (laidD.filter fun x => !(laidD.map (·.1)).contains x.1) = [] := List.filter_eq_nil_iff.2 fun x hx => by rw [List.contains_iff_mem.2 (List.mem_map.2 ⟨x, hx, rfl⟩)]; simp
  exact laidMet_layVars (w0 := laidBase os) (laidD.map (·.1)) [] (by rw [e1]; rfl) (by rw [e1]; kernel_rfl) (by rw [e1]; kernel_rfl) (by rw [e2]; exact LaidIn.none)
theorem laidWorld_met (os : Os) (args : Array Value) : laidMetH Tryd.prog laidL ((laidWorld os).forCall (fun _ _ => 0) ⟨#[], args, []⟩).memory :=
  laidMetH_of_parts ((laidWorld_data os).of_heap (by simp [World.memory, World.forCall, Input.heap])) (by kernel_rfl)
end Go.Proofs.YtfmlllckfpagkaaDoor
