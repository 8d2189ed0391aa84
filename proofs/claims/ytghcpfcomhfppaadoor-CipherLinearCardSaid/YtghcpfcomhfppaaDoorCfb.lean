/-
  Contracts of the steps Sub, Unsub, Shift and Unshift of package cipher, and of the functions in them, by walks through their texts; what was there stays as it was.
-/
import Derived.Test.YtghcpfcomhfppaaDoorCfa
import Derived.Test.YtghcpfcomhfppaaDoorSbb
namespace Go.Proofs.YtghcpfcomhfppaaDoor
open Go.RowKit
set_option linter.unusedVariables false
set_option maxRecDepth 100000

theorem csub1 (n : Nat) (f : Nat → Nat) (g : Nat) (w : World) (hn : n < 16) (hf : f n < 256) (hA : Ar w g 16 f) (h : Boxes w) :
    Calls Tryd.prog 32 #[.int .i64 (n : Int), .pointer (some ⟨g, 0, none⟩)] w fun e w' => e = .returned (.int .u8 (suF f n : Nat)) ∧ Below w.heap.size w w' := by
  obtain ⟨c, _⟩ := hA n hn
  have i1 : (n : Int) < 16 := by omega
  have hs := sboxS (f n) w hf h
  rw [show suF f n = sb (f n) from rfl]
  generalize f n = x at *
  go_enter Tryd.func32, Tryd.ntmps32
  go_wp2_with fail
  refine hs.mono ?_
  rintro e w6 ⟨rfl, rfl⟩
  go_wp2_with fail
  go_ret
  exact ⟨rfl, Below.refl _ _⟩
theorem cunsub1 (n : Nat) (f : Nat → Nat) (g : Nat) (w : World) (hn : n < 16) (hf : f n < 256) (hA : Ar w g 16 f) (h : Boxes w) :
    Calls Tryd.prog 38 #[.int .i64 (n : Int), .pointer (some ⟨g, 0, none⟩)] w fun e w' => e = .returned (.int .u8 (usF f n : Nat)) ∧ Below w.heap.size w w' := by
  obtain ⟨c, _⟩ := hA n hn
  have i1 : (n : Int) < 16 := by omega
  have hs := sback (f n) w hf h
  rw [show usF f n = bk (f n) from rfl]
  generalize f n = x at *
  go_enter Tryd.func38, Tryd.ntmps38
  go_wp2_with fail
  refine hs.mono ?_
  rintro e w6 ⟨rfl, rfl⟩
  go_wp2_with fail
  go_ret
  exact ⟨rfl, Below.refl _ _⟩
theorem cshift1 (n : Nat) (f : Nat → Nat) (g : Nat) (w : World) (hn : n < 16) (hA : Ar w g 16 f) :
    Calls Tryd.prog 34 #[.int .i64 (n : Int), .pointer (some ⟨g, 0, none⟩)] w fun e w' => e = .returned (.int .u8 (shF f n : Nat)) ∧ Below w.heap.size w w' := by
  obtain ⟨a, ha⟩ : ∃ a : Nat, a = n % 4 := ⟨_, rfl⟩
  obtain ⟨b, hb⟩ : ∃ b : Nat, b = (n + 4 * (n % 4)) % 16 := ⟨_, rfl⟩
  have a1 : ((n : Int)).tmod 4 = (a : Int) := by rw [Int.tmod_eq_emod_of_nonneg (by omega)]; omega
  have a2 : (n : Int) % 4 = (a : Int) := by omega
  have b1 : ((n : Int) + 4 * (a : Int)).tmod 16 = (b : Int) := by rw [Int.tmod_eq_emod_of_nonneg (by omega)]; omega
  have b2 : ((n : Int) + 4 * (a : Int)) % 16 = (b : Int) := by omega
  have i1 : (b : Int) < 16 := by omega
  have i2 : (a : Int) < 4 := by omega
  have i3 : (n : Int) < 16 := by omega
  obtain ⟨c, _⟩ := hA b (by omega)
  rw [show shF f n = f b by rw [shF, hb]]
  clear ha hb
  go_enter Tryd.func34, Tryd.ntmps34
  go_wp2_with fail
  go_ret
  exact ⟨rfl, Below.refl _ _⟩
theorem cunshift1 (n : Nat) (f : Nat → Nat) (g : Nat) (w : World) (hn : n < 16) (hA : Ar w g 16 f) :
    Calls Tryd.prog 40 #[.int .i64 (n : Int), .pointer (some ⟨g, 0, none⟩)] w fun e w' => e = .returned (.int .u8 (uhF f n : Nat)) ∧ Below w.heap.size w w' := by
  obtain ⟨a, ha⟩ : ∃ a : Nat, a = n % 4 := ⟨_, rfl⟩
  obtain ⟨b, hb⟩ : ∃ b : Nat, b = (n + 12 * (n % 4)) % 16 := ⟨_, rfl⟩
  have a1 : ((n : Int)).tmod 4 = (a : Int) := by rw [Int.tmod_eq_emod_of_nonneg (by omega)]; omega
  have a2 : (n : Int) % 4 = (a : Int) := by omega
  have b1 : ((n : Int) + 12 * (a : Int)).tmod 16 = (b : Int) := by rw [Int.tmod_eq_emod_of_nonneg (by omega)]; omega
  have b2 : ((n : Int) + 12 * (a : Int)) % 16 = (b : Int) := by omega
  have i1 : (b : Int) < 16 := by omega
  have i2 : (a : Int) < 4 := by omega
  have i3 : (n : Int) < 16 := by omega
  obtain ⟨c, _⟩ := hA b (by omega)
  rw [show uhF f n = f b by rw [uhF, hb]; congr 1; omega]
  clear ha hb
  go_enter Tryd.func40, Tryd.ntmps40
  go_wp2_with fail
  go_ret
  exact ⟨rfl, Below.refl _ _⟩
end Go.Proofs.YtghcpfcomhfppaaDoor
