/-
  The frame of the laws of layer 2: what the listed package-level variables give a walk; a world that meets that condition; a description of an error among the arguments. No condition.
-/
import Derived.Test.YtiddiahlodlmlaaDoorBox
import Derived.ChangeSame
import Derived.ChangeVars
import Derived.JoinedOf
import Derived.OpenShut
import Derived.ShutString
import Derived.SliceStrings
import Derived.Carry
import Derived.Deep.Fields
import Derived.LaidLaws
import Derived.LaidHandle
import Derived.Lib.LaidU8
import Derived.Lay
import Derived.Stop.Joined
namespace Go.Proofs.YtiddiahlodlmlaaDoor
open Go.ChangeShapes Go.WideShapes Go.RowKit Go.Deep
set_option linter.unusedVariables false
set_option maxRecDepth 100000

theorem own : ownKnob Tryd.prog.godebug = none := by kernel_rfl
theorem laidOut : laidOutB Tryd.prog = true := by kernel_rfl

/-! ### The listed variables -/
def laidL : List (String × DataW Unit) := Rows.faultFindsRow.laid
def laidD : List (String × DataW Unit) := laidL.filter fun x => x.2.handleName?.isNone
def laidH : List (String × DataW Unit) := laidL.filter fun x => x.2.handleName?.isSome
theorem laid_parts {W : World} (h : laidMetH Tryd.prog laidL W) : laidMet Tryd.prog laidD W ∧ handlesMet Tryd.prog laidH W := h

theorem Tryd.et : Tryd.prog.globalNamed "errors.errorType" = some 1 := by kernel_rfl
theorem Tryd.rt : (Tryd.prog.cutTypes.find? (·.1 == "internal/reflectlite.rtype")).map (·.2) = some 80 := by kernel_rfl
theorem Tryd.oneRow : ((List.range 141).filter fun t => Tryd.prog.rowNamed t [101, 114, 114, 111, 114]) = [28] := by kernel_rfl
theorem Tryd.tsize : Tryd.prog.types.size = 141 := by kernel_rfl
theorem err_of {W : World} (h : handlesMet Tryd.prog laidH W) : ErrType W := by
  obtain ⟨name, u, ty, e1, e2, e3, e4, e5⟩ := h ("errors.errorType", Rows.laid_errors_errorType) (List.mem_singleton.2 rfl)
  have en : name = [101, 114, 114, 111, 114] := (Option.some.inj e1).symm
  subst en
  obtain rfl := Option.some.inj (Tryd.rt.symm.trans e2)
  have hm : ty ∈ (List.range 141).filter fun t => Tryd.prog.rowNamed t [101, 114, 114, 111, 114] := List.mem_filter.2 ⟨List.mem_range.2 (by rw [← Tryd.tsize]; exact e3), e4⟩
  rw [Tryd.oneRow] at hm
  obtain rfl := List.mem_singleton.1 hm
  have hh : typeHandle Tryd.prog 28 = .pointer (some ⟨5, 28, none⟩) := by kernel_rfl
  rw [hh] at e5
  simpa [ErrType] using World.var?_cell Tryd.et e5 0
theorem pow_of {W : World} (h : laidMet Tryd.prog laidD W) : Pow10 W := by
  obtain ⟨g, t, cs, fuel, p, h1, h2, h3, h4⟩ := Lib.laidMet.reads h (n := "internal/strconv.uint64pow10") (d := Rows.laid_internal_strconv_uint64pow10) (by
    show ("internal/strconv.uint64pow10", Rows.laid_internal_strconv_uint64pow10) ∈ laidD
    exact List.mem_filter.2 ⟨.tail _ (.tail _ (.head _)), rfl⟩)
  have hg : Tryd.prog.globalNamed "internal/strconv.uint64pow10" = some 2 := by kernel_rfl
  obtain rfl := Option.some.inj (hg.symm.trans h1)
  have ht : (Tryd.prog.globals[2]?).map (·.type) = some 103 := by kernel_rfl
  obtain rfl := Option.some.inj (ht.symm.trans h2)
  have hd : (Rows.laid_internal_strconv_uint64pow10 : DataW Unit) = Lib.tabData .u64 Lib.pow10Tab := by kernel_rfl
  rw [hd] at h4
  have hc := Lib.cells_of_tab Tryd.underlying103 Tryd.underlying95 (by kernel_rfl) (by kernel_rfl) h4
  unfold Pow10 Lib.TabIs
  rw [h3, ← hc]
theorem size_of {W : World} (h : laidMet Tryd.prog laidD W) : 5 ≤ W.heap.size := by
  obtain ⟨g, t, cs, fuel, p, h1, h2, h3, h4⟩ := Lib.laidMet.reads h (n := "math/bits.deBruijn64tab") (d := Rows.laid_math_bits_deBruijn64tab) (by
    show ("math/bits.deBruijn64tab", Rows.laid_math_bits_deBruijn64tab) ∈ laidD
    exact List.mem_filter.2 ⟨.tail _ (.head _), rfl⟩)
  have hg : Tryd.prog.globalNamed "math/bits.deBruijn64tab" = some 4 := by kernel_rfl
  unfold World.var? at h3
  rw [hg] at h3
  simp only [Option.bind_some] at h3
  rcases Nat.lt_or_ge 4 W.heap.size with h5 | h5
  · omega
  · rw [Array.getElem?_eq_none h5] at h3; simp at h3
theorem names_of {W : World} (h : laidMet Tryd.prog laidD W) : NamesIs W := by
  obtain ⟨g, t, cs, fuel, p, h1, h2, h3, h4⟩ := Lib.laidMet.reads h (n := "mooring/fault.names") (d := Rows.laid_mooring_fault_names) (by
    show ("mooring/fault.names", Rows.laid_mooring_fault_names) ∈ laidD
    exact List.mem_filter.2 ⟨.tail _ (.tail _ (.tail _ (.tail _ (.head _)))), rfl⟩)
  have hg : Tryd.prog.globalNamed "mooring/fault.names" = some 0 := by kernel_rfl
  obtain rfl := Option.some.inj (hg.symm.trans h1)
  have ht : (Tryd.prog.globals[0]?).map (·.type) = some 65 := by kernel_rfl
  obtain rfl := Option.some.inj (ht.symm.trans h2)
  obtain ⟨xs, m, rfl, hx, hl, hxl, hall⟩ := DataW.trod_array Tryd.underlying65 h4
  have hce : Tryd.prog.cellsOf 9 = 1 := by kernel_rfl
  have hxs : xs.map (·.1) = (nameL.map fun s => (.lit (.string s.toUTF8.data.toList) : DataW Unit)) := by
    have h6 := congrArg Prod.fst hx
    have h7 : (Rows.laid_mooring_fault_names : DataW Unit) = .agg (nameL.map fun s => (.lit (.string s.toUTF8.data.toList) : DataW Unit)) := by kernel_rfl
    rw [h7] at h6
    exact (DataW.agg.inj h6).symm
  intro i hi
  have hf := hall i hi
  rw [hce, Nat.mul_one] at hf
  have hxi : xs[i]? = some (xs[i]'(by omega)) := List.getElem?_eq_getElem (by omega)
  rw [hxi] at hf
  obtain ⟨s, hs, hx1, _⟩ := DataW.trod_string Tryd.underlying9 hf
  have h5 : cs[i]? = some (.string s) := by
    have := congrArg (·[0]?) hs
    simpa [List.getElem?_take, List.getElem?_drop] using this
  have h6 : (xs.map (·.1))[i]? = some (.lit (.string s.data.toList)) := by rw [List.getElem?_map, hxi, hx1]; rfl
  rw [hxs, List.getElem?_map] at h6
  have hni : nameL[i]? = some (nameL.getD i "") := by
    rw [List.getD_eq_getElem?_getD, List.getElem?_eq_getElem (show i < nameL.length from hi)]; rfl
  rw [hni] at h6
  simp only [Option.map_some, Option.some.injEq, DataW.lit.injEq, Lit.string.injEq] at h6
  have h7 : nameB i = s := by
    unfold nameB
    exact baExt h6
  have := World.var?_cell hg h3 i
  rw [this, h5, h7]
theorem gl_of {W : World} (h : laidMetH Tryd.prog laidL W) : Gl W :=
  let h' := laid_parts h
  ⟨err_of h'.2, pow_of h'.1, names_of h'.1, size_of h'.1⟩
end Go.Proofs.YtiddiahlodlmlaaDoor
