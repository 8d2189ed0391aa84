/-
  An array of bytes among the arguments of a statement: the value that stands for it. No condition; nothing of the program is named here.
-/
import Derived.OpenShut
import Derived.ChangeOld
import Derived.Test.YtdfponbfgcfpdaaDoorMem
namespace Go.Proofs.YtdfponbfgcfpdaaDoor
open Go.ChangeShapes Go.WideShapes Go.RowKit
set_option linter.unusedVariables false

def byteOf : Value → UInt8
  | .int _ z => UInt8.ofNat z.toNat
  | _ => 0

/-- What comes in as an array of n bytes is a list of n bytes. -/
theorem open_arr {H : Type} {enc : TypeId × Value → H} {P : Program} {W : World} {r : Reach} {base B : Nat} {sp : Nat → Bool} {held : Bool} {t e : TypeId} {n : Nat} {v : Value} {d : DataW H} {p : List MemPlace}
    (ht : P.underlying t = some (.array n e)) (he : P.underlying e = some (.int .u8)) (hct : P.cellsOf t = n) (hce : P.cellsOf e = 1)
    (hv : Value.okWide P W r base t v) (h : DataW.Trod enc P W B sp held t v d p) : ∃ l : List UInt8, l.length = n ∧ v = .agg (l.map b8).toArray := by
  obtain ⟨cs, rfl, hsz⟩ : ∃ cs, v = .agg cs ∧ cs.size = P.cellsOf t := by
    cases v <;> simp [Value.okWide, ht] at hv
    exact ⟨_, rfl, hv.1⟩
  obtain ⟨fuel, hf⟩ := h
  obtain ⟨xs, m, rfl, hx, hlen, hxl, hg⟩ := DataW.trod_array ht hf
  obtain ⟨L⟩ := cs
  have hL : L.length = n := by simpa [hct] using hsz
  refine ⟨L.map byteOf, by simpa using hL, ?_⟩
  congr 1
  congr 1
  rw [List.map_map]
  apply List.ext_getElem
  · simp
  · intro i h1 h2
    have hi : i < n := by omega
    have hgi := hg i hi
    rw [hce, Nat.mul_one, List.getElem?_eq_getElem (by omega)] at hgi
    have hdt : (List.drop i L).take 1 = [L[i]] := by
      rw [List.drop_eq_getElem_cons h1]; rfl
    have hcells : (Value.agg ⟨L⟩).cells.toList = L := by simp [Value.cells]
    rw [hcells, hdt] at hgi
    obtain ⟨z, ez, _, wz⟩ := DataW.trod_int he hgi
    simp at ez
    have hb : 0 ≤ z ∧ z ≤ 255 := by simpa [Lit.wf, IntKind.min, IntKind.max, IntKind.signed, IntKind.bits] using wz
    simp only [List.getElem_map, Function.comp]
    rw [ez]
    simp only [byteOf]
    rw [b8_ofNat _ (by omega)]
    congr 1
    omega
theorem list4 {α : Type} (l : List α) (h : l.length = 4) : ∃ a b c d, l = [a, b, c, d] := by
  match l, h with
  | [a, b, c, d], _ => exact ⟨a, b, c, d, rfl⟩
end Go.Proofs.YtdfponbfgcfpdaaDoor
