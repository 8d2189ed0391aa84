/-
  What the laws of layer 2 carry from call to call: the description that lies in memory, and the slice of its parts. No condition.
-/
import Derived.Test.YtiddiahlodlmlaaDoorAwk
import Derived.Test.YtiddiahlodlmlaaDoorIs
namespace Go.Proofs.YtiddiahlodlmlaaDoor
open Go.RowKit Go.Extern.Stop Go.Stop Go.Extern Go.Shelf
set_option linter.unusedVariables false
set_option maxRecDepth 20000

/-- The description lies in block b. -/
structure Bx (b : Nat) (nl : Bool) (A : Option Addr) (n c : Nat) (cd a : Int) (f : Bool) (W : World) : Prop where
  c0 : W.cell? ⟨b, 0, none⟩ = some (.bool nl)
  c1 : W.cell? ⟨b, 1, none⟩ = some (.slice A n c)
  c2 : W.cell? ⟨b, 2, none⟩ = some (.int .i64 cd)
  c3 : W.cell? ⟨b, 3, none⟩ = some (.int .i64 a)
  c4 : W.cell? ⟨b, 4, none⟩ = some (.bool f)
theorem Bx.below {b n c : Nat} {nl f : Bool} {A : Option Addr} {cd a : Int} {W W' : World} (h : Bx b nl A n c cd a f W) (hb : Below W.heap.size W W') : Bx b nl A n c cd a f W' :=
  have hlt := block_lt h.c0
  ⟨(hb.cell (p := ⟨b, 0, none⟩) hlt).trans h.c0, (hb.cell (p := ⟨b, 1, none⟩) hlt).trans h.c1, (hb.cell (p := ⟨b, 2, none⟩) hlt).trans h.c2, (hb.cell (p := ⟨b, 3, none⟩) hlt).trans h.c3, (hb.cell (p := ⟨b, 4, none⟩) hlt).trans h.c4⟩
theorem Bx.new (nl f : Bool) (A : Option Addr) (n c : Nat) (cd a : Int) (w : World) : Bx w.heap.size nl A n c cd a f (w.alloc (.cells #[.bool nl, .slice A n c, .int .i64 cd, .int .i64 a, .bool f] 24)) :=
  ⟨by simp, by simp, by simp, by simp, by simp⟩
theorem Ss.to {w w' : World} {n : Nat} {A : Option Addr} {l : List ByteArray} (h : Ss w w.heap.size A n l) (hb : Below w.heap.size w w') : Ss w' w'.heap.size A n l :=
  (h.below hb (Nat.le_refl _)).more hb.size
theorem nilNeq (t : Nat) (v : Value) (w : World) : (binOp .neq 28 (.iface t v) .nilIface).run Tryd.prog w = .ok (.bool true) w := by
  have h : ∀ d : Nat, (Op.equalIn (d + 1) 28 (.iface t v) .nilIface).run Tryd.prog w = .ok false w := fun d => by simp [Op.equalIn, run_underlying Tryd.underlying28]
  simp only [binOp]
  simp [Op.equal, Op.maxDepth, h 9999]
theorem mkE_cod (l : List ByteArray) : ∀ b : Er, (mkE l b).cod = b.cod ∧ (mkE l b).off = b.off := by
  induction l with
  | nil => exact fun b => ⟨rfl, rfl⟩
  | cons s l ih => exact fun b => ih (.wrap s b)
theorem mkE_has (l : List ByteArray) (x : Int) : ∀ b : Er, (mkE l b).has x = b.has x := by
  induction l with
  | nil => exact fun b => rfl
  | cons s l ih => exact fun b => ih (.wrap s b)
theorem mkE_ok (l : List ByteArray) : ∀ b : Er, b.ok → (mkE l b).ok := by
  induction l with
  | nil => exact fun b h => h
  | cons s l ih => exact fun b h => ih (.wrap s b) h
theorem base_cod (cd a : Int) (f : Bool) : (baseE cd a f).cod = some cd ∧ (baseE cd a f).off = if f then some a else none := by cases f <;> exact ⟨rfl, rfl⟩
theorem base_has (cd a x : Int) (f : Bool) : (baseE cd a f).has x = decide (cd = x) := by cases f <;> rfl
theorem base_ok (cd a : Int) (f : Bool) (h : -9223372036854775808 ≤ cd ∧ cd ≤ 9223372036854775807) : (baseE cd a f).ok := by cases f <;> exact h
theorem few_facts {l : List ByteArray} {a : Int} {n : Nat} (h : fewB l a = true) (hl : l.length = n) : smallS l = true ∧ n ≤ 20 ∧ -1152921504606846976 < a ∧ a < 1152921504606846976 := by
  unfold fewB at h
  simp only [Bool.and_eq_true, decide_eq_true_eq] at h
  exact ⟨h.1, by omega, h.2.2.1, h.2.2.2⟩
theorem shift_to (e0 : Er) (c n a r : Int) (w : World) (g : Gl w) (hc : e0.cod = some c) (ha : e0.off.getD 0 = a) (hr : a + n = r) (h : -9223372036854775808 ≤ r ∧ r ≤ 9223372036854775807) :
    Calls Tryd.prog 13 #[.iface e0.ty e0.pay, .int .i64 n] w fun e w' => e = .returned (.iface 50 (.agg #[.int .i64 c, .int .i64 r])) ∧ Below w.heap.size w w' := by
  subst hr
  exact shift_some e0 c n a w g hc ha h
end Go.Proofs.YtiddiahlodlmlaaDoor
