/-
  The walk of the law TextMatchesReference of layer 14: for every key it returns true, and writes nothing that was there.
-/
import Derived.Test.YtfmlllckfpagkaaDoorTxf
import Derived.Test.YtfmlllckfpagkaaDoorArg
import Derived.Deep.RegionHeld3
namespace Go.Proofs.YtfmlllckfpagkaaDoor
open Go.RowKit
set_option linter.unusedVariables false
set_option maxRecDepth 100000
set_option linter.unusedSimpArgs false

set_option maxHeartbeats 4000000 in
theorem tmatches14 (f : Nat → Nat) (w : World) (hf : ∀ j, j < 16 → f j < 256) (hs : TxG w) :
    Calls Tryd.prog 3 #[.agg (arL 16 f).toArray] w fun e w' => e = .returned (.bool true) ∧ Below w.heap.size w w' := by
  have HX := Lib.hid hs
  have hz := zero16x
  have z0 := run_zero16t
  have Hf := Lib.hid hf
  obtain ⟨kf, hkf⟩ : ∃ k : Array Value, (arL 16 f).toArray = k := ⟨_, rfl⟩
  obtain ⟨w1, hw1⟩ : ∃ V : World, V = w.alloc (.cells (arL 16 f).toArray 22) := ⟨_, rfl⟩
  have hs1 : w1.heap.size = w.heap.size + 1 := by rw [hw1]; simp
  have hBw1 : Below w.heap.size w w1 := by rw [hw1]; exact (Below.refl _ _).alloc (Nat.le_refl _) _
  have hfw1 : Ar w1 w.heap.size 16 f := by rw [hw1]; exact Ar.new w 16 f _
  rw [hkf] at hw1
  rw [hkf]
  clear hkf hs hf
  go_enter Tryd.func3, Tryd.ntmps3
  go_upto_region 1 with fail
  rw [← hw1]
  clear hw1
  try simp only [Nat.add_assoc, Nat.reduceAdd]
  obtain ⟨gf, hgf⟩ : ∃ g : Nat, w.heap.size = g := ⟨_, rfl⟩
  rw [hgf] at hfw1
  try simp only [hgf]
  have hlf : w.heap.size ≤ gf := by omega
  clear  hs1
  go_wp2_with fail
  refine (tawake _ (HX.out.keep hBw1)).mono ?_
  rintro e x1 ⟨rfl, hq⟩
  have hfx1 := (hfw1).to (by omega) hq
  have hBx1 := hBw1.trans (hq.mono hBw1.size)
  clear hq hfw1 hBw1
  go_wp2_with (refine wpList_load_ar rfl _ _ rfl _ _ _ rfl hfx1 Tryd.arr16x (size16x _) ?_)
  refine (tprint f _ Hf.out (HX.out.keep hBx1)).mono ?_
  rintro e x2 ⟨rfl, hq⟩
  have hfx2 := (hfx1).to (by omega) hq
  have hBx2 := hBx1.trans (hq.mono hBx1.size)
  clear hq hfx1 hBx1
  have hpt := pa_tx f
  have hkt := pk_tx f Hf.out
  obtain ⟨L, hL⟩ : ∃ L, txL f = L := ⟨_, rfl⟩
  have HTL := Lib.hid (show L.length = 22 by rw [← hL]; exact txL_len f)
  have HRP := Lib.hid (fun V => rprint f V Hf.out)
  rw [hL] at hpt hkt HRP
  rw [hL]
  have HPT := Lib.hid hpt
  have HEQ := Lib.hid (eq16t_true hkt)
  clear hL hpt hkt
  obtain ⟨S, hS⟩ : ∃ S, stB L = S := ⟨_, rfl⟩
  have HS := Lib.hid hS
  have HSZ := Lib.hid (show S.size = 22 by rw [← hS, stB_size]; exact HTL.out)
  rw [hS] at HRP
  rw [hS]
  clear hS
  go_wp2_with fail
  refine (tparse_at S L HS.out _ (by rw [HTL.out]; omega) (HX.out.keep hBx2)).mono ?_
  rintro e x3 ⟨rfl, hq⟩
  rw [HPT.out]
  rw [show fauV (0, 0) = .nilIface from rfl]
  have hfx3 := (hfx2).to (by omega) hq
  have hBx3 := hBx2.trans (hq.mono hBx2.size)
  clear hq hfx2 hBx2
  obtain ⟨K, hK9⟩ : ∃ K, paK L = K := ⟨_, rfl⟩
  rw [hK9] at HEQ
  rw [hK9]
  clear hK9
  obtain ⟨gk, hgk⟩ : ∃ g : Nat, x3.heap.size = g := ⟨_, rfl⟩
  have hlgfgk : gf < gk := by rw [← hgk]; exact hfx3.lt (by omega)
  have hlwgk : w.heap.size ≤ gk := by rw [← hgk]; exact hBx3.size
  have hq : Below x3.heap.size x3 (x3.alloc (.cells (arL 16 fun _ => 0).toArray 22)) := (Below.refl _ _).alloc (Nat.le_refl _) _
  have hfx4a := (hfx3).to (by omega) hq
  have hkx4a := Ar.new x3 16 (fun _ => 0) 22
  have hBx4a := hBx3.alloc hBx3.size (.cells (arL 16 fun _ => 0).toArray 22)
  rw [hgk] at hkx4a
  clear hq hfx3 hBx3
  go_upto_region 5 with (first | (refine wpList_store_ar rfl _ _ _ rfl _ _ _ (K) rfl rfl hkx4a (size16x _) ?_; intro x4 hkx4 belx4 sizx4 keex4) | fail)
  have hfx4 := (hfx4a).keep hlgfgk belx4
  have hBx4 := hBx4a.trans (belx4.mono hlwgk)
  clear hfx4a hkx4a hBx4a belx4 sizx4 keex4 hgk
  try dsimp only [Act.put]
  go_wp2_with (refine wpList_load_ar rfl _ _ rfl _ _ _ rfl hfx4 Tryd.arr16x (size16x _) ?_)
  refine (HRP.out _).mono ?_
  rintro e x5 ⟨rfl, hq⟩
  have hfx5 := (hfx4).to (by omega) hq
  have hkx5 := (hkx4).to (by omega) hq
  have hBx5 := hBx4.trans (hq.mono hBx4.size)
  clear hq hfx4 hkx4 hBx4
  have hst := eqs_true (a := S) rfl
  have hsz := HSZ.out
  have heq := HEQ.out
  have hgd := Tryd.eqg16t
  go_wp2_with (first | (refine wpList_load_ar0W rfl _ _ rfl _ _ _ rfl hkx5 Tryd.arr16x (size16x _) ?_) | (refine wpList_load_ar0W rfl _ _ rfl _ _ _ rfl hfx5 Tryd.arr16x (size16x _) ?_))
  go_ret
  exact ⟨rfl, hBx5⟩
end Go.Proofs.YtfmlllckfpagkaaDoor
