/-
  Contract of keys.Restore, by a walk through its text; what was there stays as it was.
-/
import Derived.Test.YtdfponbfgcfpdaaDoorKec
namespace Go.Proofs.YtdfponbfgcfpdaaDoor
open Go.RowKit
set_option linter.unusedVariables false
set_option maxRecDepth 10000

set_option maxHeartbeats 800000 in
theorem krestore_no (z : Int) (f : Nat → Nat) (w : World) (hz : z < 0 ∨ 10 < z) :
    Calls Tryd.prog 15 #[.int .i64 z, .agg (arL 16 f).toArray] w fun e w' => e = .returned (.tuple #[.agg (arL 16 fun _ => 0).toArray, .bool false]) ∧ Below w.heap.size w w' := by
  have hz0 := zero16
  obtain ⟨kA, hkA⟩ : ∃ kA : Array Value, (arL 16 f).toArray = kA := ⟨_, rfl⟩
  obtain ⟨w1, hw1⟩ : ∃ w1 : World, w1 = w.alloc (.cells (arL 16 f).toArray 22) := ⟨_, rfl⟩
  have hs1 : w1.heap.size = w.heap.size + 1 := by rw [hw1]; simp
  have hb1 : Below w.heap.size w w1 := by rw [hw1]; exact (Below.refl _ _).alloc (Nat.le_refl _) _
  obtain ⟨w2, hw2⟩ : ∃ w2 : World, w2 = w1.alloc (.cells (arL 16 fun _ => 0).toArray 22) := ⟨_, rfl⟩
  have hb2 : Below w.heap.size w w2 := by rw [hw2]; exact hb1.alloc (by omega) _
  have hR2 : Ar w2 (w.heap.size + 1) 16 (fun _ => 0) := by rw [hw2, ← hs1]; exact Ar.new w1 16 _ _
  rw [hkA] at hw1
  rw [hkA]
  clear hb1
  have hzz : z < 0 ∨ (¬ z < 0 ∧ 10 < z) := by omega
  rcases hzz with h | ⟨h, h2⟩
  all_goals
    go_enter Tryd.func15, Tryd.ntmps15
    go_upto_region 1 with fail
    rw [← hw1, ← hw2]
    clear hw1 hw2
    go_wp2_with (refine wpList_store_ar rfl _ _ _ rfl _ _ _ (fun _ => 0) rfl rfl hR2 (size16 _) ?_; intro w8 hA8 hb8 _ _)
    refine bodyPost_ret_ar2 rfl rfl rfl hA8 Tryd.arr16 (size16 _) rfl ⟨rfl, ?_⟩
    exact hb2.trans (hb8.mono (by omega))


theorem Aw.three {w : World} {g : Nat} {f : Nat → Nat} (h : Aw w g 4 f) (W : Nat → Nat) :
    Aw (((w.setCell ⟨g, 3, none⟩ (.int .u32 (W 3 : Nat))).setCell ⟨g, 2, none⟩ (.int .u32 (W 2 : Nat))).setCell ⟨g, 1, none⟩ (.int .u32 (W 1 : Nat))) g 4 (fun i => if i = 0 then f 0 else W i) :=
  (((h.set (j := 3) (v := W 3) (by omega) rfl).set (j := 2) (v := W 2) (by omega) rfl).set (j := 1) (v := W 1) (by omega) rfl).ext (fun j hj => by
    rcases (show j = 0 ∨ j = 1 ∨ j = 2 ∨ j = 3 by omega) with rfl | rfl | rfl | rfl <;> simp)
theorem Aw.zero {w : World} {g a : Nat} (W : Nat → Nat) (h : Aw w g 4 (fun i => if i = 0 then a else W i)) : Aw (w.setCell ⟨g, 0, none⟩ (.int .u32 (W 0 : Nat))) g 4 W :=
  (h.set (j := 0) (v := W 0) (by omega) rfl).ext (fun j hj => by
    rcases (show j = 0 ∨ j = 1 ∨ j = 2 ∨ j = 3 by omega) with rfl | rfl | rfl | rfl <;> simp)

set_option maxHeartbeats 1600000 in
theorem krestore (r : Nat) (f : Nat → Nat) (hf : ∀ j, j < 16 → f j < 256) (w : World) (hr : r ≤ 10) (h : Boxes w) :
    Calls Tryd.prog 15 #[.int .i64 r, .agg (arL 16 f).toArray] w fun e w' => e = .returned (.tuple #[.agg (arL 16 (bkr f r)).toArray, .bool true]) ∧ Below w.heap.size w w' := by
  have hz0 := zero16
  obtain ⟨kA, hkA⟩ : ∃ kA : Array Value, (arL 16 f).toArray = kA := ⟨_, rfl⟩
  obtain ⟨w1, hw1⟩ : ∃ w1 : World, w1 = w.alloc (.cells (arL 16 f).toArray 22) := ⟨_, rfl⟩
  have hs1 : w1.heap.size = w.heap.size + 1 := by rw [hw1]; simp
  have hb1 : Below w.heap.size w w1 := by rw [hw1]; exact (Below.refl _ _).alloc (Nat.le_refl _) _
  have hK1 : Ar w1 w.heap.size 16 f := by rw [hw1]; exact Ar.new w 16 _ _
  obtain ⟨w2, hw2⟩ : ∃ w2 : World, w2 = w1.alloc (.cells (arL 16 fun _ => 0).toArray 22) := ⟨_, rfl⟩
  have hs2 : w2.heap.size = w.heap.size + 2 := by rw [hw2]; simp [hs1]
  have hb2 : Below w.heap.size w w2 := by rw [hw2]; exact hb1.alloc (by omega) _
  have hR2 : Ar w2 (w.heap.size + 1) 16 (fun _ => 0) := by rw [hw2, ← hs1]; exact Ar.new w1 16 _ _
  have hK2 : Ar w2 w.heap.size 16 f := by rw [hw2]; exact hK1.alloc (by omega) _
  rw [hkA] at hw1
  rw [hkA]
  clear hb1 hK1
  have i1 : ¬ ((r : Int) < 0) := by omega
  have i2 : ¬ ((10 : Int) < (r : Int)) := by omega
  go_enter Tryd.func15, Tryd.ntmps15
  go_upto_region 1 with fail
  rw [← hw1, ← hw2]
  clear hw1 hw2
  go_upto_region 3 with fail
  go_wp2_with (refine wpList_load_ar rfl _ _ rfl _ _ _ rfl hK2 Tryd.arr16 (size16 _) ?_)
  rw [← hkA]
  refine (ksplit f hf _).mono ?_
  rintro e w3 ⟨rfl, k3⟩
  have hR3 := hR2.to (by omega) k3
  have hb3 := hb2.trans (k3.mono hb2.size)
  have hs3 := k3.size
  obtain ⟨gt, hgt⟩ : ∃ gt : Nat, w3.heap.size = gt := ⟨_, rfl⟩
  have hge : w.heap.size + 2 ≤ gt := by omega
  obtain ⟨w4, hw4⟩ : ∃ w4 : World, w4 = w3.alloc (.cells #[.int .u32 (wd f 0 : Nat), .int .u32 (wd f 1 : Nat), .int .u32 (wd f 2 : Nat), .int .u32 (wd f 3 : Nat)] 41) := ⟨_, rfl⟩
  have hW4 : Aw w4 gt 4 (wd f) := by rw [hw4, ← hgt]; exact Aw.new w3 4 (wd f) _
  have hR4 : Ar w4 (w.heap.size + 1) 16 (fun _ => 0) := by rw [hw4]; exact hR3.alloc (by omega) _
  have hb4 : Below w.heap.size w w4 := by rw [hw4]; exact hb3.alloc (by omega) _
  clear hR2 hb2 hK2 hR3 hb3 k3 hs3 hs1 hs2 hz0
  go_upto_region 4 with fail
  rw [← hw4]
  clear hw4 hgt i1 i2
  have hfh := Lib.hid hf
  have hbx := Lib.hid h
  clear hf h hkA
  go_loopw [0] (fun i wr => ∃ n : Nat, ∃ g : Nat → Nat, n ≤ 10 ∧ i = .int .i64 n ∧ (∀ j, j < 16 → g j < 256) ∧ (∀ j, j < 16 → bkr g n j = bkr f r j) ∧ Aw wr gt 4 (wd g) ∧ Ar wr (w.heap.size + 1) 16 (fun _ => 0) ∧ Below w.heap.size w wr) (fun i _ => (intOf i).toNat)
  case atStart => exact ⟨r, f, hr, rfl, hfh.out, fun _ _ => rfl, hW4, hR4, hb4⟩
  case round =>
    clear hW4 hR4 hb4
    obtain ⟨n, g, hn, rfl, hg, hbk, hW, hR, hB⟩ := hrel
    have hBk := Lib.hid hbk
    have hG := Lib.hid hg
    clear hbk
    by_cases hpos : 0 < n
    · obtain ⟨m, hm⟩ : ∃ m : Nat, n = m + 1 := ⟨n - 1, by omega⟩
      obtain ⟨P, hP⟩ : ∃ P : Nat → Nat, P = pv (pwr 2 m) g := ⟨_, rfl⟩
      have hp := pwr_lt 2 m
      have hPl : ∀ j, j < 16 → P j < 256 := by rw [hP]; exact pv_lt _ g hp hg
      have hPb := Lib.hid (fun j (hj : j < 16) => (show bkr P m j = bkr f r j by rw [← hBk.out j hj, hm, bkr, hP]))
      have l1 := wd_lt g 1 hg (by omega)
      have l2 := wd_lt g 2 hg (by omega)
      have l3 := wd_lt g 3 hg (by omega)
      have l0 := wd_lt g 0 hg (by omega)
      have p3 := wd_lt P 3 hPl (by omega)
      have x0 := Lib.hid (show wd g 0 ^^^ trn (wd P 3) (pwr 2 m) = wd P 0 by rw [hP]; exact pv_w0 _ g hp hg)
      have x1 : bits BinOp.xor IntKind.u32 ((wd g 1 : Nat) : Int) ((wd g 0 : Nat) : Int) = ((wd P 1 : Nat) : Int) := by rw [xor_w _ _ l1 l0, hP]; exact congrArg _ (pv_wS _ g 0 (by omega) hg)
      have x2 : bits BinOp.xor IntKind.u32 ((wd g 2 : Nat) : Int) ((wd g 1 : Nat) : Int) = ((wd P 2 : Nat) : Int) := by rw [xor_w _ _ l2 l1, hP]; exact congrArg _ (pv_wS _ g 1 (by omega) hg)
      have x3 : bits BinOp.xor IntKind.u32 ((wd g 3 : Nat) : Int) ((wd g 2 : Nat) : Int) = ((wd P 3 : Nat) : Int) := by rw [xor_w _ _ l3 l2, hP]; exact congrArg _ (pv_wS _ g 2 (by omega) hg)
      have hlt := Lib.hid (trn_lt (wd P 3) (pwr 2 m) hp)
      have hkt := Lib.hid (fun (V : World) (hV : Boxes V) => (by have := kturn (wd P 3) n V p3 (by omega) (by omega) hV; rwa [show n - 1 = m by omega] at this : Calls Tryd.prog 21 #[.int .u32 (wd P 3 : Nat), .int .i64 n] V fun e w' => e = .returned (.int .u32 (trn (wd P 3) (pwr 2 m) : Nat)) ∧ Below V.heap.size V w'))
      have L0 := Lib.hid l0
      have HP := Lib.hid hPl
      have hz1 : wrap64 ((n : Int) - 1) = (m : Int) := by rw [IntWalk.wrap64_in _ (by omega)]; omega
      have hz2 := Lib.hid (show (n : Int) - 1 = (m : Int) by omega)
      have hM := Lib.hid hm
      have hpos2 : (0 : Int) < (n : Int) := by omega
      have hbw := Lib.hid (hbx.out.keep hB)
      obtain ⟨c0, d0⟩ := hW 0 (by omega)
      obtain ⟨c1, d1⟩ := hW 1 (by omega)
      obtain ⟨c2, d2⟩ := hW 2 (by omega)
      obtain ⟨c3, d3⟩ := hW 3 (by omega)
      have HW := Lib.hid hW
      clear hW hg hG hP hPl l0 l1 l2 l3 p3 hm hBk hp hpos
      go_upto_region 9 with fail
      have hW7 := HW.out.three (wd P)
      have hR7 := ((hR.far (p := ⟨gt, 3, none⟩) (by simp; omega) (.int .u32 (wd P 3 : Nat))).far (p := ⟨gt, 2, none⟩) (by simp; omega) (.int .u32 (wd P 2 : Nat))).far (p := ⟨gt, 1, none⟩) (by simp; omega) (.int .u32 (wd P 1 : Nat))
      have hB7 := ((hB.setCell (p := ⟨gt, 3, none⟩) (by simp; omega) (.int .u32 (wd P 3 : Nat))).setCell (p := ⟨gt, 2, none⟩) (by simp; omega) (.int .u32 (wd P 2 : Nat))).setCell (p := ⟨gt, 1, none⟩) (by simp; omega) (.int .u32 (wd P 1 : Nat))
      obtain ⟨w7, hw7⟩ : ∃ w7 : World, w7 = ((wr.setCell ⟨gt, 3, none⟩ (.int .u32 (wd P 3 : Nat))).setCell ⟨gt, 2, none⟩ (.int .u32 (wd P 2 : Nat))).setCell ⟨gt, 1, none⟩ (.int .u32 (wd P 1 : Nat)) := ⟨_, rfl⟩
      rw [← hw7] at hW7 hR7 hB7
      rw [← hw7]
      clear hw7 hR hB HW c0 d0 c1 d1 c2 d2 c3 d3 x1 x2 x3
      have hb7 : Boxes w7 := hbx.out.keep hB7
      have e0 := (hW7 0 (by omega)).1
      have e1 := (hW7 0 (by omega)).2
      have e3 := (hW7 3 (by omega)).1
      refine krReg n (wd g 0) (wd P 3) (trn (wd P 3) (pwr 2 m)) (wd P 0) gt hn L0.out hlt.out x0.out hkt.out hb7 e0 e3 e1 ?_
      intro w9 k9
      have hW9 := Aw.zero (wd P) (hW7.to (by omega) k9)
      have hR9 := (hR7.to (by omega) k9).far (p := ⟨gt, 0, none⟩) (by simp; omega) (.int .u32 (wd P 0 : Nat))
      have hB9 := (hB7.trans (k9.mono hB7.size)).setCell (p := ⟨gt, 0, none⟩) (by simp; omega) (.int .u32 (wd P 0 : Nat))
      obtain ⟨w10, hw10⟩ : ∃ w10 : World, w10 = w9.setCell ⟨gt, 0, none⟩ (.int .u32 (wd P 0 : Nat)) := ⟨_, rfl⟩
      rw [← hw10] at hW9 hR9 hB9
      rw [← hw10]
      clear hw10 hW7 hR7 hB7 hb7 e0 e1 e3 k9 x0 hlt hkt L0
      go_wp2_with fail
      go_roundw
      case rel => exact ⟨m, P, by have := hM.out; omega, fval_of hz2.out, HP.out, hPb.out, hW9, hR9, hB9⟩
      case measure => have := hM.out; simp [intOf]; omega
    · have hpos3 : ¬ ((0 : Int) < (n : Int)) := by omega
      have hn0 := Lib.hid (show n = 0 by omega)
      have hgl := Lib.hid (fun i (hi : i < 4) => wd_lt g i hg hi)
      have hjn := Lib.hid (fun j (hj : j < 16) => (jn_wd g hg j hj).trans (show bkr g 0 j = bkr f r j from hn0.out ▸ hBk.out j hj))
      obtain ⟨c0, d0⟩ := hW 0 (by omega)
      obtain ⟨c1, d1⟩ := hW 1 (by omega)
      obtain ⟨c2, d2⟩ := hW 2 (by omega)
      obtain ⟨c3, d3⟩ := hW 3 (by omega)
      clear hpos hn hg hBk
      go_wp2_with fail
      refine (kjoin (wd g) hgl.out _).mono ?_
      rintro e w6 ⟨rfl, k6⟩
      have hR6 := hR.to (by omega) k6
      have hb6 := hB.trans (k6.mono hB.size)
      have hj := arL_ext (n := 16) (fun j hj => hjn.out j hj)
      rw [hj]
      clear hW c0 d0 c1 d1 c2 d2 c3 d3 hR hB k6 hj
      go_wp2_with (refine wpList_store_ar rfl _ _ _ rfl _ _ _ (bkr f r) rfl rfl hR6 (size16 _) ?_; intro w8 hA8 hb8 _ _)
      refine bodyPost_ret_ar2 rfl rfl rfl hA8 Tryd.arr16 (size16 _) rfl ⟨rfl, ?_⟩
      exact hb6.trans (hb8.mono (by omega))
end Go.Proofs.YtdfponbfgcfpdaaDoor
