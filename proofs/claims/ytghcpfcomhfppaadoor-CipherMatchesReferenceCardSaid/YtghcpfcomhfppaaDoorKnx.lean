/-
  One statement of keys.Next (w[0] ^= turn(..)), whose order of evaluation is drawn, as a text of its own: whatever the frame.
-/
import Derived.Test.YtghcpfcomhfppaaDoorKea
import Derived.Test.YtghcpfcomhfppaaDoorReg
import Derived.Deep.RegionWith
import Derived.Deep.RegionHeld3
namespace Go.Proofs.YtghcpfcomhfppaaDoor
open Go.RowKit
set_option linter.unusedVariables false
set_option maxRecDepth 100000

theorem xor_w (a b : Nat) (ha : a < 4294967296) (hb : b < 4294967296) : bits .xor .u32 (a : Int) (b : Int) = ((a ^^^ b : Nat) : Int) := bits_xor_nat .u32 32 (by decide) wraps_u32' a b ha hb

noncomputable def knRegC : Code := ((Tryd.f41.body.bind (regionNo 4)).getD .skip)
set_option maxHeartbeats 1600000 in
theorem knReg (r m x0 x3 y z gB : Nat) {Q0 : Exit → Act → World → Prop} {t1 t2 t3 t4 t5 t7 t8 t9 t10 t11 t12 t13 t14 t15 t16 t17 t18 t19 t20 t21 t22 t23 t24 t25 t26 t27 t28 t29 t30 t31 t32 t33 t34 t35 t36 t37 t38 t39 t40 t41 t42 t43 t44 : Value} {W : World} (hr : r < 10) (hm : m = r + 1) (hx0 : x0 < 4294967296) (hy : y < 4294967296) (hz : x0 ^^^ y = z)
    (hT : ∀ V : World, Boxes V → Calls Tryd.prog 46 #[.int .u32 (x3 : Nat), .int .i64 m] V fun e w' => e = .returned (.int .u32 (y : Nat)) ∧ Below V.heap.size V w') (hB : Boxes W)
    (c0 : W.cell? ⟨gB, 0, none⟩ = some (.int .u32 (x0 : Nat))) (c3 : W.cell? ⟨gB, 3, none⟩ = some (.int .u32 (x3 : Nat))) (d0 : W.frozen? ⟨gB, 0, none⟩ = false)
    (hQ : ∀ w9, Below W.heap.size W w9 → Q0 .normal ⟨(.int .i64 (r : Int) :: t1 :: t2 :: t3 :: t4 :: t5 :: .pointer (some ⟨gB, 0, none⟩) :: t7 :: t8 :: t9 :: t10 :: t11 :: t12 :: t13 :: t14 :: t15 :: .pointer (some ⟨gB, 0, none⟩) :: .int .u32 ((x0 : Nat) : Int) :: .pointer (some ⟨gB, 3, none⟩) :: .int .u32 ((x3 : Nat) : Int) :: .int .i64 (r : Int) :: .int .i64 (m : Int) :: .int .u32 ((y : Nat) : Int) :: .int .u32 ((z : Nat) : Int) :: .pointer (some ⟨gB, 0, none⟩) :: t25 :: t26 :: t27 :: t28 :: t29 :: t30 :: t31 :: t32 :: t33 :: t34 :: t35 :: t36 :: t37 :: t38 :: t39 :: t40 :: t41 :: t42 :: t43 :: t44 :: []).toArray, []⟩ (w9.setCell ⟨gB, 0, none⟩ (.int .u32 (z : Nat)))) :
    Code.wp Tryd.prog knRegC Q0 ⟨(.int .i64 (r : Int) :: t1 :: t2 :: t3 :: t4 :: t5 :: .pointer (some ⟨gB, 0, none⟩) :: t7 :: t8 :: t9 :: t10 :: t11 :: t12 :: t13 :: t14 :: t15 :: t16 :: t17 :: t18 :: t19 :: t20 :: t21 :: t22 :: t23 :: t24 :: t25 :: t26 :: t27 :: t28 :: t29 :: t30 :: t31 :: t32 :: t33 :: t34 :: t35 :: t36 :: t37 :: t38 :: t39 :: t40 :: t41 :: t42 :: t43 :: t44 :: []).toArray, []⟩ W := by
  have hg : gB < W.heap.size := by
    rcases Nat.lt_or_ge gB W.heap.size with h1 | h1
    · exact h1
    · simp [World.cell?, Array.getElem?_eq_none h1] at c0
  have m1 : IntKind.i64.wrap ((r : Int) + 1) = (m : Int) := by rw [wraps_i64' _ (by omega) (by omega)]; omega
  have m2 : wrap64 ((r : Int) + 1) = (m : Int) := by rw [IntWalk.wrap64_in _ (by omega)]; omega
  have m3 : (r : Int) + 1 = (m : Int) := by omega
  have m4 : IntKind.i64.wrap (m : Int) = (m : Int) := wraps_i64' _ (by omega) (by omega)
  clear hm
  have hxx : bits BinOp.xor IntKind.u32 ((x0 : Nat) : Int) ((y : Nat) : Int) = ((z : Nat) : Int) := by rw [xor_w _ _ hx0 hy, hz]
  have hkeep : ∀ V : World, Below W.drew.heap.size W.drew V → V.cell? ⟨gB, 0, none⟩ = some (.int .u32 (x0 : Nat)) ∧ V.frozen? ⟨gB, 0, none⟩ = false ∧ Below W.heap.size W V := fun V h =>
    ⟨(h.cell (p := ⟨gB, 0, none⟩) hg).trans c0, (h.frozen (p := ⟨gB, 0, none⟩) hg).trans d0, ⟨h.os, h.tape, h.output, h.size, h.block⟩⟩
  have hQ2 := Lib.hid hQ
  have hT2 := Lib.hid hT
  clear hQ hT hz hx0 hy
  refine Code.wp_mono NoPanic.imp ?_
  conv => arg 2; whnf
  go_region_with (go_at_call 46; refine (hT2.out W.drew hB).mono ?_; rintro e w9 ⟨rfl, hb9⟩; obtain ⟨k1, k2, k3⟩ := hkeep _ hb9)
  all_goals exact NoPanic.normal (hQ2.out _ k3)
end Go.Proofs.YtghcpfcomhfppaaDoor
