/-
 Slices of blocks of 16 bytes in memory: a slice that reads as bytes by block and place; what keeps it so; such a slice among the arguments of a statement. No condition; nothing of the program is named here.
-/
import Derived.Test.YthfnpjjckpnfbaaGreatDoorFre
import Derived.Deep.Slices
namespace Go.Proofs.YthfnpjjckpnfbaaGreatDoor
open Go.ChangeShapes Go.WideShapes Go.RowKit
set_option linter.unusedVariables false

/-- The slice at A with n blocks reads as F: the byte j of the block i. -/
def S16 (w : World) (A : Option Addr) (n : Nat) (F : Nat → Nat → Nat) : Prop :=
 0 < n → ∃ b o, A = some ⟨b, o, none⟩ ∧ b < w.heap.size ∧ ∀ i, i < n → w.rangeAt b (o + i * 16) (arL 16 (F i))
section
variable {w w' : World} {A : Option Addr} {n : Nat} {F : Nat → Nat → Nat}
theorem S16.to (h : S16 w A n F) (hb : Below w.heap.size w w') : S16 w' A n F := fun hn => by
 obtain ⟨b, o, e, hl, hr⟩ := h hn
 exact ⟨b, o, e, Nat.lt_of_lt_of_le hl hb.size, fun i hi j v hv => (hb.cell (p := ⟨b, o + i * 16 + j, none⟩) hl).trans (hr i hi j v hv)⟩
theorem S16.drew (h : S16 w A n F) : S16 w.drew A n F := h
theorem S16.drewN (h : S16 w A n F) (k : Nat) : S16 (w.drewN k) A n F := h
theorem S16.alloc (h : S16 w A n F) (o : Obj) : S16 (w.alloc o) A n F := h.to ((Below.refl _ _).alloc (Nat.le_refl _) o)
end
end Go.Proofs.YthfnpjjckpnfbaaGreatDoor
