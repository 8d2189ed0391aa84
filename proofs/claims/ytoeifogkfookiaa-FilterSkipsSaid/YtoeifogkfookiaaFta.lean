/-
  Contracts of package filter, each by a walk through its text. A filter in memory: how many numbers it has accepted and refused, the last number, whether there is one; the last number is at most 2^63 - 1, and 0 where there is none.
-/
import Derived.Test.YtoeifogkfookiaaCde
import Derived.Test.YtoeifogkfookiaaUsl
import Derived.Lib.MinMax
namespace Go.Proofs.Ytoeifogkfookiaa
open Go.RowKit
set_option linter.unusedVariables false
set_option linter.unusedSimpArgs false
set_option maxRecDepth 100000

def fiF (x y n : Nat) (z : Bool) : Nat → Value
  | 0 => .int .i64 (x : Int) | 1 => .int .i64 (y : Int) | 2 => .int .u64 (n : Int) | _ => .bool z
/-- A filter in block g: x accepted, y refused, the last one n, if there is one (z). -/
structure Fi (w : World) (g x y n : Nat) (z : Bool) : Prop where
  cx : Cx w g 4 (fiF x y n z)
  top : n ≤ 9223372036854775807
  zero : z = false → n = 0
/-- A number is fresh. -/
def frF (n : Nat) (z : Bool) (s : Nat) : Bool := decide (s ≤ 9223372036854775807) && (!z || decide (n < s))
/-- The code of the error for a number that is not. -/
def noF (s : Nat) : Nat := if 9223372036854775807 < s then 10 else 9
theorem noF_ne (s : Nat) : noF s ≠ 0 := by unfold noF; split <;> decide
theorem frF_iff {n s : Nat} {z : Bool} : frF n z s = true ↔ s ≤ 9223372036854775807 ∧ (z = false ∨ n < s) := by
  unfold frF; cases z <;> simp
theorem frF_no {n s : Nat} {z : Bool} : frF n z s = false ↔ 9223372036854775807 < s ∨ z = true ∧ s ≤ n := by
  unfold frF; cases z <;> simp <;> omega
theorem frF_self (s : Nat) : frF s true s = false := frF_no.2 (.inr ⟨rfl, Nat.le_refl _⟩)
theorem frF_rises {n s t : Nat} {z : Bool} (h : frF n z s = true) (k : frF n z t = false) : frF s true t = false := by
  rw [frF_iff] at h
  rw [frF_no] at k ⊢
  rcases k with k | ⟨k1, k2⟩
  · exact .inl k
  · rcases h.2 with h2 | h2
    · rw [h2] at k1; cases k1
    · exact .inr ⟨rfl, by omega⟩
section
variable {w w' : World} {g x y n : Nat} {z : Bool} {S : Nat → Prop}
theorem Fi.lt (h : Fi w g x y n z) : g < w.heap.size := h.cx.lt (by omega)
theorem Fi.but (h : Fi w g x y n z) (hb : But S w w') (hs : ¬ S g) : Fi w' g x y n z := ⟨h.cx.but hb hs, h.top, h.zero⟩
theorem Fi.to (h : Fi w g x y n z) (hb : Below w.heap.size w w') : Fi w' g x y n z := ⟨h.cx.to (by omega) hb, h.top, h.zero⟩
theorem Fi.keep {B : Nat} (h : Fi w g x y n z) (hg : g < B) (hb : Below B w w') : Fi w' g x y n z := ⟨h.cx.keep hg hb, h.top, h.zero⟩
theorem Fi.drew (h : Fi w g x y n z) : Fi w.drew g x y n z := ⟨h.cx, h.top, h.zero⟩
theorem Fi.c0 (h : Fi w g x y n z) : w.cell? ⟨g, 0, none⟩ = some (.int .i64 (x : Int)) := (h.cx 0 (by omega)).1
theorem Fi.c1 (h : Fi w g x y n z) : w.cell? ⟨g, 1, none⟩ = some (.int .i64 (y : Int)) := (h.cx 1 (by omega)).1
theorem Fi.c2 (h : Fi w g x y n z) : w.cell? ⟨g, 2, none⟩ = some (.int .u64 (n : Int)) := (h.cx 2 (by omega)).1
theorem Fi.c3 (h : Fi w g x y n z) : w.cell? ⟨g, 3, none⟩ = some (.bool z) := (h.cx 3 (by omega)).1
theorem Fi.z0 (h : Fi w g x y n z) : w.frozen? ⟨g, 0, none⟩ = false := (h.cx 0 (by omega)).2
theorem Fi.z1 (h : Fi w g x y n z) : w.frozen? ⟨g, 1, none⟩ = false := (h.cx 1 (by omega)).2
theorem Fi.z2 (h : Fi w g x y n z) : w.frozen? ⟨g, 2, none⟩ = false := (h.cx 2 (by omega)).2
theorem Fi.z3 (h : Fi w g x y n z) : w.frozen? ⟨g, 3, none⟩ = false := (h.cx 3 (by omega)).2
end

set_option maxHeartbeats 1600000 in
theorem fnew (w : World) :
    Calls Try.prog 9 #[] w fun e w' => ∃ g, e = .returned (.pointer (some ⟨g, 0, none⟩)) ∧ w.heap.size ≤ g ∧ Fi w' g 0 0 0 false ∧ Below w.heap.size w w' := by
  go_enter Try.func9, Try.ntmps9
  go_wp2_with fail
  go_ret
  refine ⟨_, rfl, Nat.le_refl _, ⟨?_, by omega, fun _ => rfl⟩, (Below.refl _ _).alloc (Nat.le_refl _) _⟩
  exact Cx.new w 4 (fiF 0 0 0 false) _

set_option maxHeartbeats 1600000 in
theorem fafter (x : Nat) (w : World) (hx : x < 18446744073709551616) :
    Calls Try.prog 17 #[.int .u64 (x : Int)] w fun e w' => ∃ g, e = .returned (.pointer (some ⟨g, 0, none⟩)) ∧ w.heap.size ≤ g ∧ Fi w' g 0 0 (min x 9223372036854775807) true ∧ Below w.heap.size w w' := by
  obtain ⟨m, hm⟩ : ∃ m, min x 9223372036854775807 = m := ⟨_, rfl⟩
  have h1 := Lib.hid (show min (x : Int) 9223372036854775807 = (m : Int) by omega)
  have h2 : m ≤ 9223372036854775807 := by omega
  rw [hm]
  clear hm
  go_enter Try.func17, Try.ntmps17
  go_wp2_with fail
  rw [h1.out]
  go_wp2_with fail
  go_ret
  refine ⟨_, rfl, Nat.le_refl _, ⟨?_, h2, fun h => (by cases h)⟩, (Below.refl _ _).alloc (Nat.le_refl _) _⟩
  exact Cx.new w 4 (fiF 0 0 m true) _

set_option maxHeartbeats 1600000 in
theorem ffresh (g x y n : Nat) (z : Bool) (s : Nat) (w : World) (h : Fi w g x y n z) :
    Calls Try.prog 11 #[.pointer (some ⟨g, 0, none⟩), .int .u64 (s : Int)] w fun e w' => e = .returned (.bool (frF n z s)) ∧ w' = w := by
  have c2 := h.c2
  have c3 := h.c3
  clear h
  by_cases h9 : s ≤ 9223372036854775807
  · have i1 : (s : Int) ≤ 9223372036854775807 := by omega
    cases z with
    | false =>
      rw [frF_iff.2 ⟨h9, .inl rfl⟩]
      clear h9
      go_enter Try.func11, Try.ntmps11
      go_wp2_with fail
      go_ret
      exact ⟨rfl, rfl⟩
    | true =>
      by_cases h8 : n < s
      · have i2 : (s : Int) > (n : Int) := by omega
        rw [frF_iff.2 ⟨h9, .inr h8⟩]
        clear h9 h8
        go_enter Try.func11, Try.ntmps11
        go_wp2_with fail
        go_ret
        exact ⟨rfl, rfl⟩
      · have i2 : ¬ (s : Int) > (n : Int) := by omega
        rw [frF_no.2 (.inr ⟨rfl, by omega⟩)]
        clear h9 h8
        go_enter Try.func11, Try.ntmps11
        go_wp2_with fail
        go_ret
        exact ⟨rfl, rfl⟩
  · have i1 : ¬ (s : Int) ≤ 9223372036854775807 := by omega
    rw [frF_no.2 (.inl (by omega))]
    clear h9
    go_enter Try.func11, Try.ntmps11
    go_wp2_with fail
    go_ret
    exact ⟨rfl, rfl⟩

set_option maxHeartbeats 1600000 in
theorem ffresh_nil (s : Nat) (w : World) :
    Calls Try.prog 11 #[.pointer none, .int .u64 (s : Int)] w fun e w' => e = .returned (.bool false) ∧ w' = w := by
  go_enter Try.func11, Try.ntmps11
  go_wp2_with fail
  go_ret
  exact ⟨rfl, rfl⟩

set_option maxHeartbeats 1600000 in
theorem frefuse (g x y n : Nat) (z : Bool) (w : World) (h : Fi w g x y n z) (hy : y < 4611686018427387904) :
    Calls Try.prog 18 #[.pointer (some ⟨g, 0, none⟩)] w fun e w' => e = .returned (.tuple #[]) ∧ Fi w' g x (y + 1) n z ∧ But (On g) w w' := by
  have c1 := h.c1
  have z1 := h.z1
  have a1 := Lib.hid (show wrap64 ((y : Int) + 1) = ((y + 1 : Nat) : Int) by rw [IntWalk.wrap64_in _ (by omega)]; omega)
  clear hy
  go_enter Try.func18, Try.ntmps18
  go_wp2_with fail
  try rw [a1.out]
  go_end0
  refine ⟨rfl, ⟨(h.cx.set _ (by omega)).ext (fun j hj => ?_), h.top, h.zero⟩, (But.refl _ _).put 1 _⟩
  have hj4 : j = 0 ∨ j = 1 ∨ j = 2 ∨ j = 3 := by omega
  rcases hj4 with rfl | rfl | rfl | rfl <;> rfl

set_option maxHeartbeats 1600000 in
theorem frefuse_nil (w : World) :
    Calls Try.prog 18 #[.pointer none] w fun e w' => e = .returned (.tuple #[]) ∧ w' = w := by
  go_enter Try.func18, Try.ntmps18
  go_wp2_with fail
  go_end0
  exact ⟨rfl, rfl⟩

set_option maxHeartbeats 1600000 in
theorem facceptY (g x y n : Nat) (z : Bool) (s : Nat) (w : World) (h : Fi w g x y n z) (hx : x < 4611686018427387904) (hC : frF n z s = true) :
    Calls Try.prog 14 #[.pointer (some ⟨g, 0, none⟩), .int .u64 (s : Int)] w fun e w' => e = .returned (erC 0) ∧ Fi w' g (x + 1) y s true ∧ But (On g) w w' := by
  rw [erC_no rfl]
  have HC := Lib.hid hC
  have hs := (frF_iff.1 hC).1
  have HS := Lib.hid hs
  have c0 := h.c0
  have c2 := h.c2
  have c3 := h.c3
  have z0 := h.z0
  have z2 := h.z2
  have z3 := h.z3
  have a1 := Lib.hid (show wrap64 ((x : Int) + 1) = ((x + 1 : Nat) : Int) by rw [IntWalk.wrap64_in _ (by omega)]; omega)
  clear hx hC hs
  go_enter Try.func14, Try.ntmps14
  go_wp2_with fail
  refine (ffresh g x y n z s _ h).mono ?_
  rintro e w1 ⟨rfl, rfl⟩
  rw [HC.out]
  go_wp2_with fail
  try rw [a1.out]
  go_ret
  refine ⟨rfl, ⟨(((h.cx.set _ (by omega)).set _ (by omega)).set _ (by omega)).ext (fun j hj => ?_), HS.out, fun e => (by cases e)⟩, (((But.refl _ _).put 2 _).put 3 _).put 0 _⟩
  have hj4 : j = 0 ∨ j = 1 ∨ j = 2 ∨ j = 3 := by omega
  rcases hj4 with rfl | rfl | rfl | rfl <;> rfl

set_option maxHeartbeats 1600000 in
theorem facceptN (g x y n : Nat) (z : Bool) (s : Nat) (w : World) (h : Fi w g x y n z) (hy : y < 4611686018427387904) (hC : frF n z s = false) :
    Calls Try.prog 14 #[.pointer (some ⟨g, 0, none⟩), .int .u64 (s : Int)] w fun e w' => e = .returned (erC (noF s)) ∧ Fi w' g x (y + 1) n z ∧ But (On g) w w' := by
  have HC := Lib.hid hC
  have HY := Lib.hid hy
  clear hC hy
  by_cases h9 : 9223372036854775807 < s
  · have i1 : (s : Int) > 9223372036854775807 := by omega
    rw [show noF s = 10 from if_pos h9, erC_is (by decide)]
    clear h9
    go_enter Try.func14, Try.ntmps14
    go_wp2_with fail
    refine (ffresh g x y n z s _ h).mono ?_
    rintro e w1 ⟨rfl, rfl⟩
    rw [HC.out]
    go_wp2_with fail
    refine (frefuse g x y n z _ h HY.out).mono ?_
    rintro e w1 ⟨rfl, h2, hb⟩
    go_wp2_with fail
    go_ret
    exact ⟨rfl, h2, hb⟩
  · have i1 : ¬ (s : Int) > 9223372036854775807 := by omega
    rw [show noF s = 9 from if_neg h9, erC_is (by decide)]
    clear h9
    go_enter Try.func14, Try.ntmps14
    go_wp2_with fail
    refine (ffresh g x y n z s _ h).mono ?_
    rintro e w1 ⟨rfl, rfl⟩
    rw [HC.out]
    go_wp2_with fail
    refine (frefuse g x y n z _ h HY.out).mono ?_
    rintro e w1 ⟨rfl, h2, hb⟩
    go_wp2_with fail
    go_ret
    exact ⟨rfl, h2, hb⟩

set_option maxHeartbeats 1600000 in
theorem faccept_nil (s : Nat) (w : World) :
    Calls Try.prog 14 #[.pointer none, .int .u64 (s : Int)] w fun e w' => e = .returned (erC 7) ∧ w' = w := by
  rw [erC_is (by decide)]
  go_enter Try.func14, Try.ntmps14
  go_wp2_with fail
  go_ret
  exact ⟨rfl, rfl⟩

set_option maxHeartbeats 1600000 in
theorem flast (g x y n : Nat) (z : Bool) (w : World) (h : Fi w g x y n z) :
    Calls Try.prog 15 #[.pointer (some ⟨g, 0, none⟩)] w fun e w' => e = .returned (.tuple #[.int .u64 (n : Int), .bool z]) ∧ Below w.heap.size w w' := by
  have c2 := h.c2
  have c3 := h.c3
  clear h
  go_enter Try.func15, Try.ntmps15
  go_wp2_with fail
  go_region
  all_goals (go_wp2_with fail; go_ret2; exact ⟨rfl, (Below.refl _ _).drew⟩)

set_option maxHeartbeats 1600000 in
theorem flast_nil (w : World) :
    Calls Try.prog 15 #[.pointer none] w fun e w' => e = .returned (.tuple #[.int .u64 0, .bool false]) ∧ w' = w := by
  go_enter Try.func15, Try.ntmps15
  go_wp2_with fail
  go_ret2
  exact ⟨rfl, rfl⟩

set_option maxHeartbeats 1600000 in
theorem fcounts (g x y n : Nat) (z : Bool) (w : World) (h : Fi w g x y n z) :
    Calls Try.prog 16 #[.pointer (some ⟨g, 0, none⟩)] w fun e w' => e = .returned (.tuple #[.int .i64 (x : Int), .int .i64 (y : Int)]) ∧ Below w.heap.size w w' := by
  have c0 := h.c0
  have c1 := h.c1
  clear h
  go_enter Try.func16, Try.ntmps16
  go_wp2_with fail
  go_region
  all_goals (go_wp2_with fail; go_ret2; exact ⟨rfl, (Below.refl _ _).drew⟩)

set_option maxHeartbeats 1600000 in
theorem fcounts_nil (w : World) :
    Calls Try.prog 16 #[.pointer none] w fun e w' => e = .returned (.tuple #[.int .i64 0, .int .i64 0]) ∧ w' = w := by
  go_enter Try.func16, Try.ntmps16
  go_wp2_with fail
  go_ret2
  exact ⟨rfl, rfl⟩
end Go.Proofs.Ytoeifogkfookiaa
