/-
  Nonces as functions: the number that a head is, its bytes, the nonce, and the ways back.
-/
import Derived.Test.YtbjohffpjfglgaaGbk
namespace Go.Proofs.Ytbjohffpjfglgaa
open Go.RowKit
set_option linter.unusedVariables false
set_option maxRecDepth 100000

def hnN (d x : Nat) : Nat := d * 9223372036854775808 + x
theorem hn_lt {d x : Nat} (hd : d < 2) (hx : x < 9223372036854775808) : hnN d x < 18446744073709551616 := by unfold hnN; omega
theorem hn_div {d x : Nat} (hx : x < 9223372036854775808) : hnN d x / 9223372036854775808 = d := by unfold hnN; omega
theorem hn_mod {d x : Nat} (hx : x < 9223372036854775808) : hnN d x % 9223372036854775808 = x := by unfold hnN; omega
theorem hn_of (y : Nat) : hnN (y / 9223372036854775808) (y % 9223372036854775808) = y := by unfold hnN; omega
theorem hn_inj {d x e y : Nat} (hx : x < 9223372036854775808) (hy : y < 9223372036854775808) : hnN d x = hnN e y ↔ d = e ∧ x = y := by unfold hnN; omega
/-- The bytes of a head. -/
def hdL (d x : Nat) : List UInt8 := byt (hnN d x) 8
def hdF (d x : Nat) : Nat → Nat := lF (hdL d x)
theorem hdL_len (d x : Nat) : (hdL d x).length = 8 := byt_len _ _
theorem hdF_lt (d x : Nat) : ∀ j, j < 8 → hdF d x j < 256 := fun j _ => lF_lt _ _
theorem num_hd {d x : Nat} (hd : d < 2) (hx : x < 9223372036854775808) : num (hdL d x) = hnN d x := by
  unfold hdL
  rw [num_byt _ _ (by omega)]
  have := hn_lt hd hx
  exact Nat.mod_eq_of_lt (by simpa using this)
theorem byt_of {l : List UInt8} (h : l.length = 8) : byt (num l) 8 = l := by
  have := byt_num l
  rw [h] at this
  simpa using this
/-- What 8 bytes say. -/
def hdD (l : List UInt8) : Nat := num l / 9223372036854775808
def hdX (l : List UInt8) : Nat := num l % 9223372036854775808
theorem hdD_lt (l : List UInt8) : hdD l < 2 := by have := num_lt l; unfold hdD; omega
theorem hdX_lt (l : List UInt8) : hdX l < 9223372036854775808 := Nat.mod_lt _ (by omega)
theorem hd_of {l : List UInt8} (h : l.length = 8) : hdL (hdD l) (hdX l) = l := by unfold hdL hdD hdX; rw [hn_of]; exact byt_of h
theorem hdD_hd {d x : Nat} (hd : d < 2) (hx : x < 9223372036854775808) : hdD (hdL d x) = d := by unfold hdD; rw [num_hd hd hx, hn_div hx]
theorem hdX_hd {d x : Nat} (hd : d < 2) (hx : x < 9223372036854775808) : hdX (hdL d x) = x := by unfold hdX; rw [num_hd hd hx, hn_mod hx]
theorem lF_ext8 {x y : List UInt8} (hl : x.length = y.length) (h : ∀ j, j < y.length → lF x j = lF y j) : x = y := by
  apply List.ext_getElem hl
  intro i h1 h2
  have := h i h2
  unfold lF at this
  rw [List.getD_eq_getElem?_getD, List.getD_eq_getElem?_getD, List.getElem?_eq_getElem h1, List.getElem?_eq_getElem h2] at this
  exact UInt8.toNat_inj.1 this
theorem hdF_inj {d x e y : Nat} (hd : d < 2) (hx : x < 9223372036854775808) (he : e < 2) (hy : y < 9223372036854775808) (h : ∀ j, j < 8 → hdF d x j = hdF e y j) : d = e ∧ x = y := by
  have h1 : hdL d x = hdL e y := lF_ext8 (by rw [hdL_len, hdL_len]) (fun j hj => h j (by rw [hdL_len] at hj; exact hj))
  have h2 := congrArg num h1
  rw [num_hd hd hx, num_hd he hy] at h2
  exact (hn_inj hx hy).1 h2
/-- A nonce: four zero bytes, and 8 others. -/
def noF (h : Nat → Nat) (j : Nat) : Nat := if j < 4 then 0 else h (j - 4)
theorem noF_lt {h : Nat → Nat} (hh : ∀ j, j < 8 → h j < 256) : ∀ j, j < 12 → noF h j < 256 := fun j hj => by
  unfold noF
  split
  · omega
  · exact hh _ (by omega)
theorem noF_four (h : Nat → Nat) (j : Nat) (hj : j < 4) : noF h j = 0 := if_pos hj
theorem noF_tail (h : Nat → Nat) (j : Nat) : noF h (4 + j) = h j := by unfold noF; rw [if_neg (by omega), Nat.add_sub_cancel_left]
theorem noF_of {n : Nat → Nat} (h : ∀ j, j < 4 → n j = 0) : ∀ j, j < 12 → noF (fun i => n (4 + i)) j = n j := fun j hj => by
  unfold noF
  by_cases h4 : j < 4
  · rw [if_pos h4, h j h4]
  · rw [if_neg h4]
    show n (4 + (j - 4)) = n j
    rw [show 4 + (j - 4) = j by omega]
theorem noF_inj {f g : Nat → Nat} (h : ∀ j, j < 12 → noF f j = noF g j) : ∀ j, j < 8 → f j = g j := fun j hj => by rw [← noF_tail f j, ← noF_tail g j]; exact h _ (by omega)
theorem noF_congr {f g : Nat → Nat} (h : ∀ j, j < 8 → f j = g j) : ∀ j, j < 12 → noF f j = noF g j := fun j hj => by
  unfold noF
  split
  · rfl
  · exact h _ (by omega)
end Go.Proofs.Ytbjohffpjfglgaa
