/-
  The check of the documentation's examples of layer 1 returns true, and writes nothing that was there. No condition.
-/
import Derived.Test.YtjonkmcglhhdaaaBitx
namespace Go.Proofs.Ytjonkmcglhhdaaa
open Go.RowKit
set_option linter.unusedVariables false

/-- A literal slice of bytes, just made. -/
theorem sl_new {w : World} {g n : Nat} {cs : Array Value} (l : List UInt8) (hg : g = w.heap.size) (hc : cs.toList = l.map b8) (hn : l.length = n) : Sl (w.alloc (.cells cs 5)) (w.alloc (.cells cs 5)).heap.size (some ⟨g, 0, none⟩) n l := by
  subst hg
  refine ⟨hn, fun _ => ⟨w.heap.size, 0, rfl, by simp, fun j y hy => ?_⟩⟩
  rw [World.cell?_alloc_at _ _ _ _ rfl, Nat.zero_add, ← Array.getElem?_toList, hc, List.getElem?_map, hy]
  rfl

theorem Sl.now {w w' : World} {B n : Nat} {A : Option Addr} {l : List UInt8} (h : Sl w B A n l) (hb : Below B w w') (hB : B ≤ w'.heap.size) : Sl w' w'.heap.size A n l := (h.below hb).more hB

set_option maxHeartbeats 1600000 in
theorem awake (w : World) : Calls Try.prog 8 #[] w fun e w' => e = .returned (.bool true) ∧ Below w.heap.size w w' := by
  go_enter Try.func8, Try.ntmps8
  go_wp2_with fail
  refine (number _ 2 2 [1, 2] _ (sl_new [1, 2] rfl rfl rfl) (by omega) (by omega)).mono ?_
  rintro e w' ⟨rfl, rfl⟩
  rw [show num [1, 2] = 258 from by decide]
  go_wp2_with fail
  refine (rotate 1 (-1) 31 _ (by omega) (by omega) (by decide)).mono ?_
  rintro e w' ⟨rfl, rfl⟩
  rw [show rotN 1 31 = 2147483648 from by decide]
  go_wp2_with fail
  refine (bytes 258 3 _ (by omega) (by omega)).mono ?_
  rintro e w1 ⟨A1, c1, rfl, hown1, hbel1⟩
  have hs1 := hown1.sl
  have hz1 := hbel1.size
  have hb1 : Below w.heap.size w w1 := ((Below.refl _ _).alloc (Nat.le_refl _) _).trans (hbel1.mono (by simp))
  have hz1' : w.heap.size ≤ w1.heap.size := hb1.size
  clear hbel1 hz1 hown1
  rw [show byt 258 (min (3 : Int).toNat 8) = [0, 1, 2] from by decide, show min (3 : Int).toNat 8 = 3 from by decide] at *
  go_wp2_with fail
  refine (same _ _ 3 3 _ 3 [0, 1, 2] [0, 1, 2] _ ((hs1.alloc (Nat.le_refl _) _).more (by simp)) (sl_new [0, 1, 2] rfl rfl rfl) (by omega) (by omega)).mono ?_
  rintro e w2 ⟨rfl, hd⟩
  have hb2 : Below w.heap.size w w2 := (hb1.alloc hz1' _).trans (hd.below _)
  have hz2 : w.heap.size ≤ w2.heap.size := hb2.size
  clear hd hs1 hb1 hz1'
  rw [show decide (([0, 1, 2] : List UInt8) = [0, 1, 2]) = true from rfl]
  go_wp2_with fail
  refine (xor_ _ _ 2 1 1 2 1 [5, 1] [6] _ (((sl_new [5, 1] rfl rfl rfl).alloc (Nat.le_refl _) _).more (by simp)) (sl_new [6] (by simp) rfl rfl) (by omega) (by omega) (by omega)).mono ?_
  rintro e w3 ⟨A3, c3, rfl, hown3, hbel3⟩
  have hs3 := hown3.sl
  have hb3 : Below w.heap.size w w3 := ((hb2.alloc hz2 _).alloc (by simp; omega) _).trans (hbel3.mono (by simp; omega))
  have hz3 : w.heap.size ≤ w3.heap.size := hb3.size
  clear hbel3 hown3 hb2 hz2
  rw [show xorL [5, 1] [6] = [3] from by decide] at hs3
  go_wp2_with fail
  refine (same _ _ 1 1 _ 1 [3] [3] _ ((hs3.alloc (Nat.le_refl _) _).more (by simp)) (sl_new [3] rfl rfl rfl) (by omega) (by omega)).mono ?_
  rintro e w4 ⟨rfl, hd⟩
  have hb4 : Below w.heap.size w w4 := (hb3.alloc hz3 _).trans (hd.below _)
  have hz4 : w.heap.size ≤ w4.heap.size := hb4.size
  clear hd hs3 hb3 hz3
  rw [show decide (([3] : List UInt8) = [3]) = true from rfl]
  go_wp2_with fail
  refine (equal _ _ 1 1 1 1 [1] [1] _ (((sl_new [1] rfl rfl rfl).alloc (Nat.le_refl _) _).more (by simp)) (sl_new [1] (by simp) rfl rfl) (by omega) (by omega)).mono ?_
  rintro e w5 ⟨rfl, hd⟩
  have hb5 : Below w.heap.size w w5 := ((hb4.alloc hz4 _).alloc (by simp; omega) _).trans (hd.below _)
  have hz5 : w.heap.size ≤ w5.heap.size := hb5.size
  clear hd hb4 hz4
  rw [show decide (([1] : List UInt8) = [1]) = true from rfl]
  go_wp2_with fail
  refine (equal _ _ 1 2 1 2 [1] [1, 0] _ (((sl_new [1] rfl rfl rfl).alloc (Nat.le_refl _) _).more (by simp)) (sl_new [1, 0] (by simp) rfl rfl) (by omega) (by omega)).mono ?_
  rintro e w6 ⟨rfl, hd⟩
  have hb6 : Below w.heap.size w w6 := ((hb5.alloc hz5 _).alloc (by simp; omega) _).trans (hd.below _)
  have hz6 : w.heap.size ≤ w6.heap.size := hb6.size
  clear hd hb5 hz5
  rw [show decide (([1] : List UInt8) = [1, 0]) = false from rfl]
  go_wp2_with fail
  refine (zeros 8 _ (by omega)).mono ?_
  rintro e w' ⟨rfl, rfl⟩
  rw [show zer 8 = 3 from by decide]
  go_wp2_with fail
  refine (bit_in _ 1 1 7 [1] _ (sl_new [1] rfl rfl rfl) (by omega) (by omega)).mono ?_
  rintro e w' ⟨rfl, rfl⟩
  rw [show bitOf [1] 7 = 1 from by decide]
  go_wp2_with fail
  go_ret
  exact ⟨rfl, hb6.alloc hz6 _⟩
end Go.Proofs.Ytjonkmcglhhdaaa
