/-
  Contract of keys.Next, by a walk through its text; what was there stays as it was.
-/
import Derived.Test.YtghcpfcomhfppaaDoorKnx
import Derived.Test.YtghcpfcomhfppaaDoorKeb
namespace Go.Proofs.YtghcpfcomhfppaaDoor
open Go.RowKit
set_option linter.unusedVariables false
set_option maxRecDepth 10000

set_option maxHeartbeats 800000 in
theorem knext_no (z : Int) (f : Nat → Nat) (w : World) (hz : z < 0 ∨ 10 ≤ z) :
    Calls Tryd.prog 41 #[.int .i64 z, .agg (arL 16 f).toArray] w fun e w' => e = .returned (.tuple #[.agg (arL 16 fun _ => 0).toArray, .bool false]) ∧ Below w.heap.size w w' := by
  have hz0 := zero16
  obtain ⟨kA, hkA⟩ : ∃ kA : Array Value, (arL 16 f).toArray = kA := ⟨_, rfl⟩
  obtain ⟨w1, hw1⟩ : ∃ w1 : World, w1 = w.alloc (.cells (arL 16 f).toArray 22) := ⟨_, rfl⟩
  have hs1 : w1.heap.size = w.heap.size + 1 := by rw [hw1]; simp
  have hb1 : Below w.heap.size w w1 := by rw [hw1]; exact (Below.refl _ _).alloc (Nat.le_refl _) _
  obtain ⟨w2, hw2⟩ : ∃ w2 : World, w2 = w1.alloc (.cells (arL 16 fun _ => 0).toArray 22) := ⟨_, rfl⟩
  have hb2 : Below w.heap.size w w2 := by rw [hw2]; exact hb1.alloc (by omega) _
  have hR2 : Ar w2 (w.heap.size + 1) 16 (fun _ => 0) := by rw [hw2, ← hs1]; exact Ar.new w1 16 _ _
  rw [hkA] at hw1
  rw [hkA]
  clear hb1
  have hzz : z < 0 ∨ (¬ z < 0 ∧ 10 ≤ z) := by omega
  rcases hzz with h | ⟨h, h2⟩
  all_goals
    go_enter Tryd.func41, Tryd.ntmps41
    go_upto_region 1 with fail
    rw [← hw1, ← hw2]
    clear hw1 hw2
    go_wp2_with (refine wpList_store_ar rfl _ _ _ rfl _ _ _ (fun _ => 0) rfl rfl hR2 (size16 _) ?_; intro w8 hA8 hb8 _ _)
    refine bodyPost_ret_ar2 rfl rfl rfl hA8 Tryd.arr16 (size16 _) rfl ⟨rfl, ?_⟩
    exact hb2.trans (hb8.mono (by omega))

set_option maxHeartbeats 1600000 in
theorem knext (r : Nat) (f : Nat → Nat) (hf : ∀ j, j < 16 → f j < 256) (w : World) (hr : r < 10) (h : Boxes w) :
    Calls Tryd.prog 41 #[.int .i64 r, .agg (arL 16 f).toArray] w fun e w' => e = .returned (.tuple #[.agg (arL 16 (nx (pwr 2 r) f)).toArray, .bool true]) ∧ Below w.heap.size w w' := by
  have hz0 := zero16
  obtain ⟨kA, hkA⟩ : ∃ kA : Array Value, (arL 16 f).toArray = kA := ⟨_, rfl⟩
  obtain ⟨w1, hw1⟩ : ∃ w1 : World, w1 = w.alloc (.cells (arL 16 f).toArray 22) := ⟨_, rfl⟩
  have hs1 : w1.heap.size = w.heap.size + 1 := by rw [hw1]; simp
  have hb1 : Below w.heap.size w w1 := by rw [hw1]; exact (Below.refl _ _).alloc (Nat.le_refl _) _
  have hK1 : Ar w1 w.heap.size 16 f := by rw [hw1]; exact Ar.new w 16 _ _
  obtain ⟨w2, hw2⟩ : ∃ w2 : World, w2 = w1.alloc (.cells (arL 16 fun _ => 0).toArray 22) := ⟨_, rfl⟩
  have hs2 : w2.heap.size = w.heap.size + 2 := by rw [hw2]; simp [hs1]
  have hb2 : Below w.heap.size w w2 := by rw [hw2]; exact hb1.alloc (by omega) _
  have hR2 : Ar w2 (w.heap.size + 1) 16 (fun _ => 0) := by rw [hw2, ← hs1]; exact Ar.new w1 16 _ _
  have hK2 : Ar w2 w.heap.size 16 f := by rw [hw2]; exact hK1.alloc (by omega) _
  rw [hkA] at hw1
  rw [hkA]
  clear hb1 hK1
  have i1 : ¬ ((r : Int) < 0) := by omega
  have i2 : ¬ ((10 : Int) ≤ (r : Int)) := by omega
  go_enter Tryd.func41, Tryd.ntmps41
  go_upto_region 1 with fail
  rw [← hw1, ← hw2]
  clear hw1 hw2
  go_upto_region 3 with fail
  go_wp2_with (refine wpList_load_ar rfl _ _ rfl _ _ _ rfl hK2 Tryd.arr16 (size16 _) ?_)
  rw [← hkA]
  refine (ksplit f hf _).mono ?_
  rintro e w3 ⟨rfl, k3⟩
  have hR3 := hR2.to (by omega) k3
  have hb3 := hb2.trans (k3.mono hb2.size)
  have h3 := h.keep hb3
  have hs3 := k3.size
  obtain ⟨gt, hgt⟩ : ∃ gt : Nat, w3.heap.size = gt := ⟨_, rfl⟩
  have hge : w.heap.size + 2 ≤ gt := by omega
  obtain ⟨w4, hw4⟩ : ∃ w4 : World, w4 = w3.alloc (.cells #[.int .u32 (wd f 0 : Nat), .int .u32 (wd f 1 : Nat), .int .u32 (wd f 2 : Nat), .int .u32 (wd f 3 : Nat)] 59) := ⟨_, rfl⟩
  have hW4 : Aw w4 gt 4 (wd f) := by rw [hw4, ← hgt]; exact Aw.new w3 4 (wd f) _
  have hR4 : Ar w4 (w.heap.size + 1) 16 (fun _ => 0) := by rw [hw4]; exact hR3.alloc (by omega) _
  have hb4 : Below w.heap.size w w4 := by rw [hw4]; exact hb3.alloc (by omega) _
  have h4 : Boxes w4 := h.keep hb4
  have hg4 : gt < w4.heap.size := hW4.lt (by omega)
  clear hR2 hb2 hK2 hR3 hb3 h3 k3 hs3 hs1 hs2 hz0
  go_upto_region 4 with fail
  rw [← hw4]
  clear hw4 hgt
  obtain ⟨G, hG⟩ : ∃ G : Nat → Nat, G = nx (pwr 2 r) f := ⟨_, rfl⟩
  have hp := pwr_lt 2 r
  have hGl : ∀ j, j < 16 → G j < 256 := by rw [hG]; exact nx_lt _ f hp hf
  have l0 := Lib.hid (wd_lt f 0 hf (by omega))
  have l1 := wd_lt f 1 hf (by omega)
  have l2 := wd_lt f 2 hf (by omega)
  have l3 := wd_lt f 3 hf (by omega)
  have g0 := wd_lt G 0 hGl (by omega)
  have g1 := wd_lt G 1 hGl (by omega)
  have g2 := wd_lt G 2 hGl (by omega)
  have x0 := Lib.hid (show wd f 0 ^^^ trn (wd f 3) (pwr 2 r) = wd G 0 by rw [hG]; exact nx_w0 _ f hp hf)
  have x1 : bits BinOp.xor IntKind.u32 ((wd f 1 : Nat) : Int) ((wd G 0 : Nat) : Int) = ((wd G 1 : Nat) : Int) := by rw [xor_w _ _ l1 g0, hG]; exact congrArg _ (nx_wS _ f 0 (by omega) hp hf)
  have x2 : bits BinOp.xor IntKind.u32 ((wd f 2 : Nat) : Int) ((wd G 1 : Nat) : Int) = ((wd G 2 : Nat) : Int) := by rw [xor_w _ _ l2 g1, hG]; exact congrArg _ (nx_wS _ f 1 (by omega) hp hf)
  have x3 : bits BinOp.xor IntKind.u32 ((wd f 3 : Nat) : Int) ((wd G 2 : Nat) : Int) = ((wd G 3 : Nat) : Int) := by rw [xor_w _ _ l3 g2, hG]; exact congrArg _ (nx_wS _ f 2 (by omega) hp hf)
  have hlt := Lib.hid (trn_lt (wd f 3) (pwr 2 r) hp)
  have hkt := Lib.hid (fun (V : World) (hV : Boxes V) => kturn (wd f 3) (r + 1) V l3 (by omega) (by omega) hV)
  have hjn := Lib.hid (fun j (hj : j < 16) => jn_wd G hGl j hj)
  have hgl := Lib.hid (fun i (hi : i < 4) => wd_lt G i hGl hi)
  have HG := Lib.hid hG
  have HR := Lib.hid hR4
  have HW := Lib.hid hW4
  obtain ⟨c0, d0⟩ := hW4 0 (by omega)
  obtain ⟨c3, d3⟩ := hW4 3 (by omega)
  clear hW4 hR4 hf hkA hG hGl l1 l2 l3 g0 g1 g2
  refine knReg r (r + 1) (wd f 0) (wd f 3) (trn (wd f 3) (pwr 2 r)) (wd G 0) gt hr rfl (l0.out) hlt.out x0.out hkt.out h4 c0 c3 d0 ?_
  intro w9 k9
  have hW9 := HW.out.to (by omega) k9
  have hR9 := HR.out.to (by omega) k9
  have hb9 := hb4.trans (k9.mono hb4.size)
  clear HW HR hb4 k9 c0 d0 c3 d3 hlt hkt x0 l0 h4 hg4 h
  obtain ⟨c0, d0⟩ := hW9 0 (by omega)
  obtain ⟨c1, d1⟩ := hW9 1 (by omega)
  obtain ⟨c2, d2⟩ := hW9 2 (by omega)
  obtain ⟨c3, d3⟩ := hW9 3 (by omega)
  have HW := Lib.hid (hW9.four (wd G))
  have HR := Lib.hid hR9
  clear hW9 hR9
  go_upto_region 8 with fail
  have hR10 : Ar ((((w9.setCell ⟨gt, 0, none⟩ (.int .u32 (wd G 0 : Nat))).setCell ⟨gt, 1, none⟩ (.int .u32 (wd G 1 : Nat))).setCell ⟨gt, 2, none⟩ (.int .u32 (wd G 2 : Nat))).setCell ⟨gt, 3, none⟩ (.int .u32 (wd G 3 : Nat))) (w.heap.size + 1) 16 (fun _ => 0) :=
    (((HR.out.far (p := ⟨gt, 0, none⟩) (by simp; omega) _).far (p := ⟨gt, 1, none⟩) (by simp; omega) _).far (p := ⟨gt, 2, none⟩) (by simp; omega) _).far (p := ⟨gt, 3, none⟩) (by simp; omega) _
  have hb10 : Below w.heap.size w ((((w9.setCell ⟨gt, 0, none⟩ (.int .u32 (wd G 0 : Nat))).setCell ⟨gt, 1, none⟩ (.int .u32 (wd G 1 : Nat))).setCell ⟨gt, 2, none⟩ (.int .u32 (wd G 2 : Nat))).setCell ⟨gt, 3, none⟩ (.int .u32 (wd G 3 : Nat))) :=
    (((hb9.setCell (p := ⟨gt, 0, none⟩) (by simp; omega) _).setCell (p := ⟨gt, 1, none⟩) (by simp; omega) _).setCell (p := ⟨gt, 2, none⟩) (by simp; omega) _).setCell (p := ⟨gt, 3, none⟩) (by simp; omega) _
  obtain ⟨w5, hw5⟩ : ∃ w5 : World, w5 = ((((w9.setCell ⟨gt, 0, none⟩ (.int .u32 (wd G 0 : Nat))).setCell ⟨gt, 1, none⟩ (.int .u32 (wd G 1 : Nat))).setCell ⟨gt, 2, none⟩ (.int .u32 (wd G 2 : Nat))).setCell ⟨gt, 3, none⟩ (.int .u32 (wd G 3 : Nat))) := ⟨_, rfl⟩
  have hW5 := HW.out
  rw [← hw5] at hW5 hR10 hb10
  rw [← hw5]
  clear hw5 c0 d0 c1 d1 c2 d2 c3 d3 x1 x2 x3 HW HR hb9
  obtain ⟨c0, d0⟩ := hW5 0 (by omega)
  obtain ⟨c1, d1⟩ := hW5 1 (by omega)
  obtain ⟨c2, d2⟩ := hW5 2 (by omega)
  obtain ⟨c3, d3⟩ := hW5 3 (by omega)
  go_wp2_with fail
  refine (kjoin (wd G) hgl.out _).mono ?_
  rintro e w6 ⟨rfl, k6⟩
  have hR6 := hR10.to (by omega) k6
  have hb6 := hb10.trans (k6.mono hb10.size)
  have hj := arL_ext (n := 16) (fun j hj => (hjn.out j hj).trans (congrFun HG.out j))
  rw [hj]
  clear hW5 c0 d0 c1 d1 c2 d2 c3 d3 hR10 hb10 k6 hj
  go_wp2_with (refine wpList_store_ar rfl _ _ _ rfl _ _ _ (nx (pwr 2 r) f) rfl rfl hR6 (size16 _) ?_; intro w8 hA8 hb8 _ _)
  refine bodyPost_ret_ar2 rfl rfl rfl hA8 Tryd.arr16 (size16 _) rfl ⟨rfl, ?_⟩
  exact hb6.trans (hb8.mono (by omega))
end Go.Proofs.YtghcpfcomhfppaaDoor
