/-
  Contracts of the reference package's Name and Told. Condition: those of each theorem.
-/
import Derived.Test.YtiddiahlodlmlaaDoorRef
namespace Go.Proofs.YtiddiahlodlmlaaDoor
open Go.RowKit Go.Extern.Stop Go.Stop Go.Extern Go.Shelf
set_option linter.unusedVariables false
set_option maxRecDepth 20000

theorem nameOf_zero : nameOf 0 = ⟨#[]⟩ := by decide +kernel
theorem refName_out (c : Int) (h : c < 1 ∨ 12 < c) (w : World) : Calls Tryd.prog 18 #[.int .i64 c] w fun e w' => e = .returned (.string (nameOf c)) ∧ Below w.heap.size w w' := by
  have e1 : Hid (nameOf c = ⟨#[]⟩) := by
    unfold Hid
    by_cases h0 : c = 0
    · subst h0; exact nameOf_zero
    · unfold nameOf; rw [if_neg (by omega)]
  rcases h with h | h
  · go_enter Tryd.func18, Tryd.ntmps18
    go_wp2_with fail
    go_ret
    exact ⟨str_of e1.out.symm, Below.refl _ _⟩
  · have h1 : ¬ c < 1 := by omega
    go_enter Tryd.func18, Tryd.ntmps18
    go_wp2_with fail
    go_ret
    exact ⟨str_of e1.out.symm, Below.refl _ _⟩
set_option maxHeartbeats 1600000 in
theorem refName_in (c : Int) (h : 1 ≤ c ∧ c ≤ 12) (w : World) : Calls Tryd.prog 18 #[.int .i64 c] w fun e w' => e = .returned (.string (nameOf c)) ∧ Below w.heap.size w w' := by
  have e1 : (⟨#[115, 104, 111, 114, 116]⟩ : ByteArray) = nameOf 1 := by decide +kernel
  have e2 : (⟨#[111, 118, 101, 114, 115, 105, 122, 101]⟩ : ByteArray) = nameOf 2 := by decide +kernel
  have e3 : (⟨#[97, 117, 116, 104]⟩ : ByteArray) = nameOf 3 := by decide +kernel
  have e4 : (⟨#[107, 101, 121]⟩ : ByteArray) = nameOf 4 := by decide +kernel
  have e5 : (⟨#[110, 111, 110, 99, 101]⟩ : ByteArray) = nameOf 5 := by decide +kernel
  have e6 : (⟨#[101, 120, 104, 97, 117, 115, 116, 101, 100]⟩ : ByteArray) = nameOf 6 := by decide +kernel
  have e7 : (⟨#[99, 108, 111, 115, 101, 100]⟩ : ByteArray) = nameOf 7 := by decide +kernel
  have e8 : (⟨#[100, 105, 114, 101, 99, 116, 105, 111, 110]⟩ : ByteArray) = nameOf 8 := by decide +kernel
  have e9 : (⟨#[114, 101, 112, 108, 97, 121]⟩ : ByteArray) = nameOf 9 := by decide +kernel
  have e10 : (⟨#[114, 97, 110, 103, 101]⟩ : ByteArray) = nameOf 10 := by decide +kernel
  have e11 : (⟨#[115, 121, 110, 116, 97, 120]⟩ : ByteArray) = nameOf 11 := by decide +kernel
  have e12 : (⟨#[101, 109, 112, 116, 121]⟩ : ByteArray) = nameOf 12 := by decide +kernel
  obtain rfl | rfl | rfl | rfl | rfl | rfl | rfl | rfl | rfl | rfl | rfl | rfl : c = 1 ∨ c = 2 ∨ c = 3 ∨ c = 4 ∨ c = 5 ∨ c = 6 ∨ c = 7 ∨ c = 8 ∨ c = 9 ∨ c = 10 ∨ c = 11 ∨ c = 12 := by omega
  · go_enter Tryd.func18, Tryd.ntmps18
    go_wp2_with fail
    go_ret
    exact ⟨str_of e1, (Below.refl _ _).alloc (Nat.le_refl _) _⟩
  · go_enter Tryd.func18, Tryd.ntmps18
    go_wp2_with fail
    go_ret
    exact ⟨str_of e2, (Below.refl _ _).alloc (Nat.le_refl _) _⟩
  · go_enter Tryd.func18, Tryd.ntmps18
    go_wp2_with fail
    go_ret
    exact ⟨str_of e3, (Below.refl _ _).alloc (Nat.le_refl _) _⟩
  · go_enter Tryd.func18, Tryd.ntmps18
    go_wp2_with fail
    go_ret
    exact ⟨str_of e4, (Below.refl _ _).alloc (Nat.le_refl _) _⟩
  · go_enter Tryd.func18, Tryd.ntmps18
    go_wp2_with fail
    go_ret
    exact ⟨str_of e5, (Below.refl _ _).alloc (Nat.le_refl _) _⟩
  · go_enter Tryd.func18, Tryd.ntmps18
    go_wp2_with fail
    go_ret
    exact ⟨str_of e6, (Below.refl _ _).alloc (Nat.le_refl _) _⟩
  · go_enter Tryd.func18, Tryd.ntmps18
    go_wp2_with fail
    go_ret
    exact ⟨str_of e7, (Below.refl _ _).alloc (Nat.le_refl _) _⟩
  · go_enter Tryd.func18, Tryd.ntmps18
    go_wp2_with fail
    go_ret
    exact ⟨str_of e8, (Below.refl _ _).alloc (Nat.le_refl _) _⟩
  · go_enter Tryd.func18, Tryd.ntmps18
    go_wp2_with fail
    go_ret
    exact ⟨str_of e9, (Below.refl _ _).alloc (Nat.le_refl _) _⟩
  · go_enter Tryd.func18, Tryd.ntmps18
    go_wp2_with fail
    go_ret
    exact ⟨str_of e10, (Below.refl _ _).alloc (Nat.le_refl _) _⟩
  · go_enter Tryd.func18, Tryd.ntmps18
    go_wp2_with fail
    go_ret
    exact ⟨str_of e11, (Below.refl _ _).alloc (Nat.le_refl _) _⟩
  · go_enter Tryd.func18, Tryd.ntmps18
    go_wp2_with fail
    go_ret
    exact ⟨str_of e12, (Below.refl _ _).alloc (Nat.le_refl _) _⟩
theorem refName (c : Int) (w : World) : Calls Tryd.prog 18 #[.int .i64 c] w fun e w' => e = .returned (.string (nameOf c)) ∧ Below w.heap.size w w' := by
  by_cases h : 1 ≤ c ∧ c ≤ 12
  · exact refName_in c h w
  · exact refName_out c (by omega) w

/-- What Told gives. -/
def toldS (cd a : Int) (f : Bool) : ByteArray := if f then nameOf cd ++ ⟨#[32]⟩ ++ itoaB a else nameOf cd
theorem refTold_nil (A : Option Addr) (n c : Nat) (cd a : Int) (f : Bool) (w : World) :
    Calls Tryd.prog 20 #[.agg #[.bool true, .slice A n c, .int .i64 cd, .int .i64 a, .bool f]] w fun e w' => e = .returned (.string ⟨#[111, 107]⟩) ∧ Below w.heap.size w w' := by
  go_enter Tryd.func20, Tryd.ntmps20
  go_wp2_with fail
  go_ret
  exact ⟨rfl, (Below.refl _ _).alloc (Nat.le_refl _) _⟩
theorem refTold_code (A : Option Addr) (n c : Nat) (cd a : Int) (w : World) :
    Calls Tryd.prog 20 #[.agg #[.bool false, .slice A n c, .int .i64 cd, .int .i64 a, .bool false]] w fun e w' => e = .returned (.string (nameOf cd)) ∧ Below w.heap.size w w' := by
  have hb0 : Below w.heap.size w (w.alloc (.cells #[.bool false, .slice A n c, .int .i64 cd, .int .i64 a, .bool false] 24)) := (Below.refl _ _).alloc (Nat.le_refl _) _
  go_enter Tryd.func20, Tryd.ntmps20
  go_wp2_with fail
  refine (refName cd _).mono ?_
  rintro e w1 ⟨rfl, hb1⟩
  go_wp2_with fail
  go_ret
  exact ⟨rfl, hb0.trans (hb1.mono hb0.size)⟩
theorem refDecimalB (n : Int) (w : World) (h0 : -9223372036854775808 ≤ n) (h1 : n ≤ 9223372036854775807) :
    Calls Tryd.prog 24 #[.int .i64 n] w fun e w' => e = .returned (.string (itoaB n)) ∧ Below w.heap.size w w' :=
  (refDecimal n w h0 h1).mono fun _ _ ⟨he, q, hq⟩ => ⟨he, Dr.below ⟨q, hq⟩ _⟩
theorem heldT {W1 W w3 : World} {b : Nat} {u v : Value} (h : W.cell? ⟨b, 2, none⟩ = some u ∧ W.cell? ⟨b, 3, none⟩ = some v ∧ Base W1 W) (hb : Below W.heap.size W w3) : w3.cell? ⟨b, 2, none⟩ = some u ∧ w3.cell? ⟨b, 3, none⟩ = some v ∧ Base W1 w3 :=
  ⟨(hb.cell (p := ⟨b, 2, none⟩) (block_lt h.1)).trans h.1, (hb.cell (p := ⟨b, 3, none⟩) (block_lt h.1)).trans h.2.1, Base.step h.2.2 hb⟩
set_option maxHeartbeats 1600000 in
theorem refTold_fault (A : Option Addr) (n c : Nat) (cd a : Int) (w : World) (ha : -9223372036854775808 ≤ a ∧ a ≤ 9223372036854775807) :
    Calls Tryd.prog 20 #[.agg #[.bool false, .slice A n c, .int .i64 cd, .int .i64 a, .bool true]] w fun e w' => e = .returned (.string (nameOf cd ++ ⟨#[32]⟩ ++ itoaB a)) ∧ Below w.heap.size w w' := by
  have hb0 : Below w.heap.size w (w.alloc (.cells #[.bool false, .slice A n c, .int .i64 cd, .int .i64 a, .bool true] 24)) := (Below.refl _ _).alloc (Nat.le_refl _) _
  have hs1 : ¬ 9223372036854775807 < (nameOf cd).size + 1 := by have := nameOf_size cd; omega
  have hs2 : ¬ 9223372036854775807 < (nameOf cd).size + 1 + (itoaB a).size := by have := nameOf_size cd; have := itoaB_size a ha.1 ha.2; omega
  have Ha := Lib.hid ha
  clear ha
  have hc0 : (w.alloc (.cells #[.bool false, .slice A n c, .int .i64 cd, .int .i64 a, .bool true] 24)).cell? ⟨w.heap.size, 2, none⟩ = some (.int .i64 cd) := by simp
  have hc1 : (w.alloc (.cells #[.bool false, .slice A n c, .int .i64 cd, .int .i64 a, .bool true] 24)).cell? ⟨w.heap.size, 3, none⟩ = some (.int .i64 a) := by simp
  go_enter Tryd.func20, Tryd.ntmps20
  go_wp2_with fail
  generalize hW : w.alloc (.cells #[.bool false, .slice A n c, .int .i64 cd, .int .i64 a, .bool true] 24) = W1 at *
  clear hW
  go_region_held3 (fun W => W.cell? ⟨w.heap.size, 2, none⟩ = some (.int .i64 cd) ∧ W.cell? ⟨w.heap.size, 3, none⟩ = some (.int .i64 a) ∧ Base W1 W)
    (first | assumption | (refine ⟨?_, ?_, ?_⟩ <;> first | assumption | exact (Base.refl _).drew | exact hc0 | exact hc1))
    (first
    | (go_at_call 18
       refine (refName cd _).mono ?_
       rintro e w3 ⟨rfl, hb3⟩
       have hN := heldT (by assumption) hb3)
    | (go_at_call 24
       refine (refDecimalB a _ Ha.out.1 Ha.out.2).mono ?_
       rintro e w3 ⟨rfl, hb3⟩
       have hN := heldT (by assumption) hb3))
  rename_i hBB
  have hB2 := hBB.2.2
  clear hBB
  go_wp2_with fail
  go_ret
  exact ⟨rfl, hb0.trans (Below.mono hB2 hb0.size)⟩
end Go.Proofs.YtiddiahlodlmlaaDoor
