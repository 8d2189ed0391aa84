/-
  An array of bytes among the arguments of a statement, as a function of the index. No condition; nothing of the program is named here.
-/
import Derived.Test.YtdfponbfgcfpdaaDoorArr
import Derived.Test.YtdfponbfgcfpdaaDoorAra
namespace Go.Proofs.YtdfponbfgcfpdaaDoor
open Go.ChangeShapes Go.WideShapes Go.RowKit
set_option linter.unusedVariables false

theorem arr_fn (l : List UInt8) (n : Nat) (h : l.length = n) : l.map b8 = arL n fun j => (l.getD j 0).toNat := by
  apply List.ext_getElem?
  intro j
  rcases Nat.lt_or_ge j n with h1 | h1
  · rw [arL_get n _ j h1, List.getElem?_map, List.getElem?_eq_getElem (by omega)]
    simp [b8, n8, List.getElem?_eq_getElem (show j < l.length by omega)]
  · rw [List.getElem?_eq_none (by simp; omega), List.getElem?_eq_none (by rw [arL_len]; exact h1)]
theorem open_arrF {H : Type} {enc : TypeId × Value → H} {P : Program} {W : World} {r : Reach} {base B : Nat} {sp : Nat → Bool} {held : Bool} {t e : TypeId} {n : Nat} {v : Value} {d : DataW H} {p : List MemPlace}
    (ht : P.underlying t = some (.array n e)) (he : P.underlying e = some (.int .u8)) (hct : P.cellsOf t = n) (hce : P.cellsOf e = 1)
    (hv : Value.okWide P W r base t v) (h : DataW.Trod enc P W B sp held t v d p) : ∃ f : Nat → Nat, (∀ j, j < n → f j < 256) ∧ v = .agg (arL n f).toArray := by
  obtain ⟨l, hl, rfl⟩ := open_arr ht he hct hce hv h
  exact ⟨_, fun j _ => UInt8.toNat_lt _, by rw [arr_fn l n hl]⟩
end Go.Proofs.YtdfponbfgcfpdaaDoor
