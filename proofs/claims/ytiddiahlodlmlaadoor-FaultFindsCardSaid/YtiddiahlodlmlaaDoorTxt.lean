/-
  The text of an error, by its method Error. Condition: the package-level variables that are read hold what the program's text lays; the text has at most 10^6 bytes.
-/
import Derived.Test.YtiddiahlodlmlaaDoorFlu
import Derived.Test.YtiddiahlodlmlaaDoorMem
import Derived.Deep.RegionHeld3
import Derived.Shelf.Lay
namespace Go.Proofs.YtiddiahlodlmlaaDoor
open Go.RowKit Go.Extern.Stop Go.Stop Go.Extern Go.Shelf
set_option linter.unusedVariables false
set_option maxRecDepth 20000

def errB : ByteArray := ⟨#[101, 114, 114, 111, 114, 32]⟩
def sepB : ByteArray := ⟨#[58, 32]⟩
def Er.text : Er → ByteArray
  | .code c => errB ++ itoaB c
  | .fault c _ => errB ++ itoaB c
  | .wrap p e => p ++ sepB ++ e.text
  | .other _ => ⟨#[]⟩
/-- Its code is an int, and it is made of the ways of package fault alone. -/
def Er.ok : Er → Prop
  | .code c => -9223372036854775808 ≤ c ∧ c ≤ 9223372036854775807
  | .fault c _ => -9223372036854775808 ≤ c ∧ c ≤ 9223372036854775807
  | .wrap _ e => e.ok
  | .other _ => False
def Er.fn : Er → Nat
  | .code _ => 64
  | .fault _ _ => 65
  | .wrap _ _ => 70
  | .other _ => 72
theorem Er.method (e : Er) (w : World) : (Go.method 241 e.ty e.pay "Error").run Tryd.prog w = .ok (e.fn, e.pay) w := by
  have h1 : ∀ (v : Value) (w : World), (Go.method 241 30 v "Error").run Tryd.prog w = .ok (64, v) w := fun v w => by kernel_rfl
  have h2 : ∀ (v : Value) (w : World), (Go.method 241 50 v "Error").run Tryd.prog w = .ok (65, v) w := fun v w => by kernel_rfl
  have h3 : ∀ (v : Value) (w : World), (Go.method 241 57 v "Error").run Tryd.prog w = .ok (70, v) w := fun v w => by kernel_rfl
  have h4 : ∀ (v : Value) (w : World), (Go.method 241 66 v "Error").run Tryd.prog w = .ok (72, v) w := fun v w => by kernel_rfl
  cases e with
  | code c => exact h1 _ _
  | fault c a => exact h2 _ _
  | wrap p e => exact h3 _ _
  | other v => exact h4 _ _
theorem Er.enters (e : Er) (args : Array Value) (w : World) : (callFunc e.fn args).run Tryd.prog w = .ok (.enter e.fn args) w := by
  cases e with
  | code c => exact enters_of Tryd.func64 (by kernel_rfl) rfl args w
  | fault c a => exact enters_of Tryd.func65 (by kernel_rfl) rfl args w
  | wrap p e => exact enters_of Tryd.func70 (by kernel_rfl) rfl args w
  | other v => exact enters_of Tryd.func72 (by kernel_rfl) rfl args w

theorem text_code (c : Int) (w : World) (g : Gl w) (h : -9223372036854775808 ≤ c ∧ c ≤ 9223372036854775807) :
    Calls Tryd.prog 64 #[.int .i64 c] w fun e w' => e = .returned (.string (errB ++ itoaB c)) ∧ Below w.heap.size w w' := by
  have hs := (neg_size c ⟨#[101, 114, 114, 111, 114, 32]⟩ h.1 h.2 (by decide)).2
  have H := Lib.hid h
  clear h
  go_enter Tryd.func64, Tryd.ntmps64
  go_wp2_with fail
  refine (itoa_ c _ g H.out.1 H.out.2).mono ?_
  rintro e w1 ⟨rfl, hb1⟩
  go_wp2_with fail
  go_ret
  exact ⟨rfl, hb1⟩
theorem text_fault (c a : Int) (w : World) (g : Gl w) (h : -9223372036854775808 ≤ c ∧ c ≤ 9223372036854775807) :
    Calls Tryd.prog 65 #[.agg #[.int .i64 c, .int .i64 a]] w fun e w' => e = .returned (.string (errB ++ itoaB c)) ∧ Below w.heap.size w w' := by
  have H := Lib.hid h
  have hb0 : Below w.heap.size w (w.alloc (.cells #[.int .i64 c, .int .i64 a] 50)) := (Below.refl _ _).alloc (Nat.le_refl _) _
  have g1 := g.to hb0
  clear h
  go_enter Tryd.func65, Tryd.ntmps65
  go_wp2_with fail
  refine (text_code c _ g1 H.out).mono ?_
  rintro e w1 ⟨rfl, hb1⟩
  go_wp2_with fail
  go_ret
  exact ⟨rfl, hb0.trans (hb1.mono hb0.size)⟩
theorem held2 {W1 W w3 : World} {b : Nat} {u v : Value} (h : W.cell? ⟨b, 0, none⟩ = some u ∧ W.cell? ⟨b, 1, none⟩ = some v ∧ Base W1 W) (hb : Below W.heap.size W w3) : w3.cell? ⟨b, 0, none⟩ = some u ∧ w3.cell? ⟨b, 1, none⟩ = some v ∧ Base W1 w3 :=
  ⟨(hb.cell (p := ⟨b, 0, none⟩) (block_lt h.1)).trans h.1, (hb.cell (p := ⟨b, 1, none⟩) (block_lt h.1)).trans h.2.1, Base.step h.2.2 hb⟩
theorem Gl.base {w w' : World} (h : Gl w) (hb : Base w w') : Gl w' := h.to hb
set_option maxHeartbeats 1600000 in
theorem text (e0 : Er) : ∀ (w : World), Gl w → e0.ok → e0.text.size ≤ 1000000 →
    Calls Tryd.prog e0.fn #[e0.pay] w fun e w' => e = .returned (.string e0.text) ∧ Below w.heap.size w w' := by
  induction e0 with
  | code c => exact fun w g h _ => text_code c w g h
  | fault c a => exact fun w g h _ => text_fault c a w g h
  | other v => exact fun w g h _ => h.elim
  | wrap p e1 ih =>
    intro w g h hs
    have hs' : p.size + 2 + e1.text.size ≤ 1000000 := by
      have e : (Er.wrap p e1).text = p ++ sepB ++ e1.text := rfl
      rw [e] at hs
      have e2 : sepB.size = 2 := rfl
      simp [ByteArray.size_append, e2] at hs
      omega
    have ih' : ∀ w, Gl w → Calls Tryd.prog e1.fn #[e1.pay] w fun e w' => e = .returned (.string e1.text) ∧ Below w.heap.size w w' := fun w g => ih w g h (by omega)
    clear ih hs
    have hs1 : ¬ 9223372036854775807 < p.size + 2 := by omega
    have hs2 : ¬ 9223372036854775807 < p.size + 2 + e1.text.size := by omega
    clear hs' h
    have hb0 : Below w.heap.size w (w.alloc (.cells #[.string p, .iface e1.ty e1.pay] 57)) := (Below.refl _ _).alloc (Nat.le_refl _) _
    have g1 := g.to hb0
    have hm := e1.method
    have he := e1.enters
    show Calls Tryd.prog 70 #[.agg #[.string p, .iface e1.ty e1.pay]] w fun e w' => e = .returned (.string (p ++ sepB ++ e1.text)) ∧ Below w.heap.size w w'
    have hc0 : (w.alloc (.cells #[.string p, .iface e1.ty e1.pay] 57)).cell? ⟨w.heap.size, 0, none⟩ = some (.string p) := by simp
    have hc1 : (w.alloc (.cells #[.string p, .iface e1.ty e1.pay] 57)).cell? ⟨w.heap.size, 1, none⟩ = some (.iface e1.ty e1.pay) := by simp
    have hlt : w.heap.size < (w.alloc (.cells #[.string p, .iface e1.ty e1.pay] 57)).heap.size := by simp
    go_enter Tryd.func70, Tryd.ntmps70
    go_wp2_with fail
    generalize hW : w.alloc (.cells #[.string p, .iface e1.ty e1.pay] 57) = W1 at *
    clear hW
    go_region_held3 (fun W => W.cell? ⟨w.heap.size, 0, none⟩ = some (.string p) ∧ W.cell? ⟨w.heap.size, 1, none⟩ = some (.iface e1.ty e1.pay) ∧ Base W1 W)
      (first | assumption | (refine ⟨?_, ?_, ?_⟩ <;> first | assumption | exact (Base.refl _).drew | exact hc0 | exact hc1))
      ((refine (ih' _ (g1.base (And.right (And.right (by assumption))))).mono ?_
        rintro e w3 ⟨rfl, hb3⟩
        have hN := held2 (by assumption) hb3))
    rename_i hBB
    have hB2 := hBB.2.2
    clear hBB hN
    go_wp2_with fail
    go_ret
    exact ⟨rfl, hb0.trans (Below.mono hB2 hb0.size)⟩
end Go.Proofs.YtiddiahlodlmlaaDoor
