/-
  The walk of the law FastLists of layer 7: for any two keys and every list of blocks it returns true, and writes nothing that was there.
-/
import Derived.Test.YtejgeefhnpeejaaDoorFao
import Derived.Test.YtejgeefhnpeejaaDoorFap
import Derived.Test.YtejgeefhnpeejaaDoorCxl
import Derived.Test.YtejgeefhnpeejaaDoorEqs
import Derived.Test.YtejgeefhnpeejaaDoorArg
import Derived.Deep.RegionHeld3
import Derived.Test.YtejgeefhnpeejaaDoorBku
import Derived.Test.YtejgeefhnpeejaaDoorBkt
namespace Go.Proofs.YtejgeefhnpeejaaDoor
open Go.RowKit
set_option linter.unusedVariables false
set_option maxRecDepth 100000

set_option maxHeartbeats 8000000 in
theorem flists (f : Nat → Nat) (o : Nat → Nat) (A : Option Addr) (n c : Nat) (F : Nat → Nat → Nat) (w : World) (hf : ∀ j, j < 16 → f j < 256) (ho : ∀ j, j < 16 → o j < 256) (hF : ∀ i j, F i j < 256) (hS : S16 w A n F) (hnc : n ≤ c) (hcm : c ≤ maxLen) (hs : Boxes w) :
    Calls Tryd.prog 5 #[.agg (arL 16 f).toArray, .agg (arL 16 o).toArray, .slice A n c] w fun e w' => e = .returned (.bool true) ∧ Below w.heap.size w w' := by
  have HX := Lib.hid hs
  have hz := zero16b
  have hzK := zeroK
  have HF := Lib.hid hF
  have Hf := Lib.hid hf
  have Ho := Lib.hid ho
  obtain ⟨kf, hkf⟩ : ∃ k : Array Value, (arL 16 f).toArray = k := ⟨_, rfl⟩
  obtain ⟨ko, hko⟩ : ∃ k : Array Value, (arL 16 o).toArray = k := ⟨_, rfl⟩
  obtain ⟨w1, hw1⟩ : ∃ V : World, V = w.alloc (.cells (arL 16 f).toArray 22) := ⟨_, rfl⟩
  have hs1 : w1.heap.size = w.heap.size + 1 := by rw [hw1]; simp
  have hBw1 : Below w.heap.size w w1 := by rw [hw1]; exact (Below.refl _ _).alloc (Nat.le_refl _) _
  have hfw1 : Ar w1 w.heap.size 16 f := by rw [hw1]; exact Ar.new w 16 f _
  obtain ⟨w2, hw2⟩ : ∃ V : World, V = w1.alloc (.cells (arL 16 o).toArray 22) := ⟨_, rfl⟩
  have hs2 : w2.heap.size = w.heap.size + 2 := by rw [hw2]; simp [hs1]
  have hBw2 : Below w.heap.size w w2 := by rw [hw2]; exact hBw1.alloc (by omega) _
  have hfw2 := hfw1.alloc (by omega) (.cells (arL 16 o).toArray 22)
  rw [← hw2] at hfw2
  have how2 : Ar w2 (w.heap.size + 1) 16 o := by rw [hw2, ← hs1]; exact Ar.new w1 16 o _
  rw [hkf] at hw1
  rw [hko] at hw2
  rw [hkf, hko]
  clear hkf hko hs hf ho
  go_enter Tryd.func5, Tryd.ntmps5
  go_upto_region 1 with fail
  rw [← hw1, ← hw2]
  clear hw1 hw2
  try simp only [Nat.add_assoc, Nat.reduceAdd]
  obtain ⟨gf, hgf⟩ : ∃ g : Nat, w.heap.size = g := ⟨_, rfl⟩
  obtain ⟨go, hgo⟩ : ∃ g : Nat, w.heap.size + 1 = g := ⟨_, rfl⟩
  rw [hgf] at hfw2
  rw [hgo] at how2
  try rw [hgo]
  try simp only [hgf]
  have hlf : w.heap.size ≤ gf := by omega
  have hlo : w.heap.size ≤ go := by omega
  have hlto : gf < go := by omega
  clear hgo hs1 hs2
  have hSw2 := hS.to hBw2
  have hn63 : n ≤ 9223372036854775807 := by have h := hcm; simp [maxLen] at h; omega
  clear hS hF hnc hcm
  by_cases h40 : n ≤ 40
  · have i40 : ¬ ((n : Int) > 40) := by omega
    go_wp2_with fail
    refine (fawake _ (HX.out.keep hBw2)).mono ?_
    rintro e x1 ⟨rfl, hq⟩
    have hfx1 := (hfw2).to (by omega) hq
    have hox1 := (how2).to (by omega) hq
    have hSx1 := (hSw2).to hq
    have hBx1 := hBw2.trans (hq.mono hBw2.size)
    clear hq hfw2 how2 hSw2 hBw2
    go_wp2_with (refine wpList_load_ar rfl _ _ rfl _ _ _ rfl hfx1 Tryd.arr16b (size16b _) ?_)
    refine (fnew f _ Hf.out (HX.out.keep hBx1)).mono ?_
    rintro e x2 ⟨gC, rfl, hgC, hCx2, hq⟩
    have hfx2 := (hfx1).to (by omega) hq
    have hox2 := (hox1).to (by omega) hq
    have hSx2 := (hSx1).to hq
    have hBx2 := hBx1.trans (hq.mono hBx1.size)
    clear hq hfx1 hox1 hSx1 hBx1
    go_wp2_with (refine wpList_load_ar rfl _ _ rfl _ _ _ rfl hox2 Tryd.arr16b (size16b _) ?_)
    refine (fnew o _ Ho.out (HX.out.keep hBx2)).mono ?_
    rintro e x3 ⟨gD, rfl, hgD, hDx3, hq⟩
    have hfx3 := (hfx2).to (by omega) hq
    have hox3 := (hox2).to (by omega) hq
    have hSx3 := (hSx2).to hq
    have hCx3 := (hCx2).to hq
    have hBx3 := hBx2.trans (hq.mono hBx2.size)
    clear hq hfx2 hox2 hSx2 hCx2 hBx2
    go_wp2_with fail
    refine (fall (.pointer (some ⟨gC, 0, none⟩)) f A n c F _ Hf.out HF.out hSx3 (by omega) (exp_made gC f _ hCx3) (HX.out.keep hBx3)).mono ?_
    rintro e x4 ⟨A1, rfl, hXx4, hq⟩
    have hfx4 := (hfx3).to (by omega) hq
    have hox4 := (hox3).to (by omega) hq
    have hSx4 := (hSx3).to hq
    have hCx4 := (hCx3).to hq
    have hDx4 := (hDx3).to hq
    have hBx4 := hBx3.trans (hq.mono hBx3.size)
    clear hq hfx3 hox3 hSx3 hCx3 hDx3 hBx3
    go_wp2_with fail
    refine (fall (.pointer (some ⟨gD, 0, none⟩)) o A n c F _ Ho.out HF.out hSx4 (by omega) (exp_made gD o _ hDx4) (HX.out.keep hBx4)).mono ?_
    rintro e x5 ⟨A2, rfl, hYx5, hq⟩
    have hfx5 := (hfx4).to (by omega) hq
    have hox5 := (hox4).to (by omega) hq
    have hSx5 := (hSx4).to hq
    have hCx5 := (hCx4).to hq
    have hDx5 := (hDx4).to hq
    have hXx5 := (hXx4).to hq
    have hBx5 := hBx4.trans (hq.mono hBx4.size)
    clear hq hfx4 hox4 hSx4 hCx4 hDx4 hXx4 hBx4
    go_wp2_with (first | (refine wpList_load_ar rfl _ _ rfl _ _ _ rfl hfx5 Tryd.arr16b (size16b _) ?_) | (refine wpList_load_ar0W rfl _ _ rfl _ _ _ rfl hfx5 Tryd.arr16b (size16b _) ?_))
    refine (refall7 f A n c F _ Hf.out HF.out hSx5 (by omega)).mono ?_
    rintro e x6 ⟨A3, c3, rfl, hOx6, hq⟩
    have hR3x6 := hOx6.s16
    clear hOx6
    have hfx6 := (hfx5).to (by omega) hq
    have hox6 := (hox5).to (by omega) hq
    have hSx6 := (hSx5).to hq
    have hCx6 := (hCx5).to hq
    have hDx6 := (hDx5).to hq
    have hXx6 := (hXx5).to hq
    have hYx6 := (hYx5).to hq
    have hBx6 := hBx5.trans (hq.mono hBx5.size)
    clear hq hfx5 hox5 hSx5 hCx5 hDx5 hXx5 hYx5 hBx5
    go_wp2_with fail
    refine (refsame7 A1 A3 n n c3 _ _ hXx6 hR3x6 (by omega)).mono ?_
    rintro e x7 ⟨rfl, hq⟩
    have hfx7 := (hfx6).to (by omega) hq
    have hox7 := (hox6).to (by omega) hq
    have hSx7 := (hSx6).to hq
    have hCx7 := (hCx6).to hq
    have hDx7 := (hDx6).to hq
    have hXx7 := (hXx6).to hq
    have hYx7 := (hYx6).to hq
    have hR3x7 := (hR3x6).to hq
    have hBx7 := hBx6.trans (hq.mono hBx6.size)
    clear hq hfx6 hox6 hSx6 hCx6 hDx6 hXx6 hYx6 hR3x6 hBx6
    go_wp2_with (first | (refine wpList_load_ar rfl _ _ rfl _ _ _ rfl hox7 Tryd.arr16b (size16b _) ?_) | (refine wpList_load_ar0W rfl _ _ rfl _ _ _ rfl hox7 Tryd.arr16b (size16b _) ?_))
    refine (refall7 o A n c F _ Ho.out HF.out hSx7 (by omega)).mono ?_
    rintro e x8 ⟨A4, c4, rfl, hOx8, hq⟩
    have hR4x8 := hOx8.s16
    clear hOx8
    have hfx8 := (hfx7).to (by omega) hq
    have hox8 := (hox7).to (by omega) hq
    have hSx8 := (hSx7).to hq
    have hCx8 := (hCx7).to hq
    have hDx8 := (hDx7).to hq
    have hXx8 := (hXx7).to hq
    have hYx8 := (hYx7).to hq
    have hBx8 := hBx7.trans (hq.mono hBx7.size)
    clear hq hfx7 hox7 hSx7 hCx7 hDx7 hXx7 hYx7 hBx7
    go_wp2_with fail
    refine (refsame7 A2 A4 n n c4 _ _ hYx8 hR4x8 (by omega)).mono ?_
    rintro e x9 ⟨rfl, hq⟩
    have hfx9 := (hfx8).to (by omega) hq
    have hox9 := (hox8).to (by omega) hq
    have hSx9 := (hSx8).to hq
    have hCx9 := (hCx8).to hq
    have hDx9 := (hDx8).to hq
    have hXx9 := (hXx8).to hq
    have hYx9 := (hYx8).to hq
    have hR4x9 := (hR4x8).to hq
    have hBx9 := hBx8.trans (hq.mono hBx8.size)
    clear hq hfx8 hox8 hSx8 hCx8 hDx8 hXx8 hYx8 hR4x8 hBx8
    go_wp2_with fail
    refine (fall (.pointer (some ⟨gC, 0, none⟩)) f A n c F _ Hf.out HF.out hSx9 (by omega) (exp_made gC f _ hCx9) (HX.out.keep hBx9)).mono ?_
    rintro e x10 ⟨A5, rfl, hVx10, hq⟩
    have hfx10 := (hfx9).to (by omega) hq
    have hox10 := (hox9).to (by omega) hq
    have hSx10 := (hSx9).to hq
    have hCx10 := (hCx9).to hq
    have hDx10 := (hDx9).to hq
    have hXx10 := (hXx9).to hq
    have hYx10 := (hYx9).to hq
    have hBx10 := hBx9.trans (hq.mono hBx9.size)
    clear hq hfx9 hox9 hSx9 hCx9 hDx9 hXx9 hYx9 hBx9
    go_wp2_with fail
    refine (refsame7 A5 A1 n n n _ _ hVx10 hXx10 (by omega)).mono ?_
    rintro e x11 ⟨rfl, hq⟩
    have hfx11 := (hfx10).to (by omega) hq
    have hox11 := (hox10).to (by omega) hq
    have hSx11 := (hSx10).to hq
    have hCx11 := (hCx10).to hq
    have hDx11 := (hDx10).to hq
    have hXx11 := (hXx10).to hq
    have hYx11 := (hYx10).to hq
    have hVx11 := (hVx10).to hq
    have hBx11 := hBx10.trans (hq.mono hBx10.size)
    clear hq hfx10 hox10 hSx10 hCx10 hDx10 hXx10 hYx10 hVx10 hBx10
    go_wp2_with fail
    go_ret
    exact ⟨rfl, hBx11⟩
  · have i40 : (n : Int) > 40 := by omega
    go_wp2_with fail
    refine (fawake _ (HX.out.keep hBw2)).mono ?_
    rintro e x12 ⟨rfl, hq⟩
    have hfx12 := (hfw2).to (by omega) hq
    have hox12 := (how2).to (by omega) hq
    have hSx12 := (hSw2).to hq
    have hBx12 := hBw2.trans (hq.mono hBw2.size)
    clear hq hfw2 how2 hSw2 hBw2
    go_wp2_with fail
    refine (fawake _ (HX.out.keep hBx12)).mono ?_
    rintro e x13 ⟨rfl, hq⟩
    have hfx13 := (hfx12).to (by omega) hq
    have hox13 := (hox12).to (by omega) hq
    have hSx13 := (hSx12).to hq
    have hBx13 := hBx12.trans (hq.mono hBx12.size)
    clear hq hfx12 hox12 hSx12 hBx12
    go_wp2_with fail
    go_ret
    exact ⟨rfl, hBx13⟩
end Go.Proofs.YtejgeefhnpeejaaDoor
