/-
  One statement of the reference's words of a key (t[0] = t[0] ^ Power(2, i/4-1)), whose order of evaluation is drawn, as a text of its own: whatever the frame.
-/
import Derived.Test.YtghcpfcomhfppaaDoorFre
import Derived.Test.YtghcpfcomhfppaaDoorFiw
import Derived.Test.YtghcpfcomhfppaaDoorReg
import Derived.Deep.RegionWith
import Derived.Deep.RegionHeld3
import Derived.BigRegion
namespace Go.Proofs.YtghcpfcomhfppaaDoor
open Go.RowKit
set_option linter.unusedVariables false
set_option maxRecDepth 100000

noncomputable def kwR11 : Code := ((Tryd.f42.body.bind (regionNo 11)).getD .skip)

set_option maxHeartbeats 1600000 in
theorem kwReg11 (n q p x0 gB : Nat) {Q0 : Exit → Act → World → Prop} {t0 t1 t2 t3 t4 t7 t8 t9 t10 t11 t12 t13 t14 t15 t16 t17 t18 t19 t20 t21 t22 t23 t24 t25 t26 t27 t28 t29 t30 t31 t32 t33 t34 t35 t36 t37 t38 t39 t40 t41 t42 t43 t44 t45 t46 t47 t48 t49 t50 t51 t52 t53 t54 t55 t56 t57 t58 t59 t60 t61 t62 t63 t64 t65 t66 t67 t68 t69 t70 t71 t72 t73 t74 t75 t76 t77 t78 t79 t80 t81 t82 t83 t84 t85 t86 t87 : Value} {W : World} (hn : n < 44) (hq : q = n / 4) (hq1 : 1 ≤ q) (hp : p = q - 1) (hx : x0 < 256)
    (hc : W.cell? ⟨gB, 0, none⟩ = some (.int .u8 (x0 : Nat))) (hf : W.frozen? ⟨gB, 0, none⟩ = false)
    (hQ : ∀ w9, Below W.heap.size W w9 → Q0 .normal ⟨(t0 :: t1 :: t2 :: t3 :: t4 :: .int .i64 (n : Int) :: .pointer (some ⟨gB, 0, none⟩) :: t7 :: t8 :: t9 :: t10 :: t11 :: t12 :: t13 :: t14 :: t15 :: t16 :: t17 :: t18 :: t19 :: t20 :: t21 :: t22 :: t23 :: t24 :: t25 :: t26 :: t27 :: t28 :: t29 :: t30 :: t31 :: t32 :: t33 :: t34 :: t35 :: t36 :: t37 :: t38 :: t39 :: t40 :: t41 :: t42 :: t43 :: t44 :: t45 :: t46 :: t47 :: t48 :: t49 :: t50 :: t51 :: t52 :: t53 :: t54 :: t55 :: t56 :: t57 :: t58 :: t59 :: t60 :: .pointer (some ⟨gB, 0, none⟩) :: .int .u8 (x0 : Int) :: .int .i64 (n : Int) :: .int .i64 (q : Int) :: .int .i64 (p : Int) :: .int .u8 ((pwr 2 p : Nat) : Int) :: .int .u8 ((x0 ^^^ pwr 2 p : Nat) : Int) :: .pointer (some ⟨gB, 0, none⟩) :: t69 :: t70 :: t71 :: t72 :: t73 :: t74 :: t75 :: t76 :: t77 :: t78 :: t79 :: t80 :: t81 :: t82 :: t83 :: t84 :: t85 :: t86 :: t87 :: []).toArray, []⟩ (w9.setCell ⟨gB, 0, none⟩ (.int .u8 ((x0 ^^^ pwr 2 p : Nat) : Int)))) :
    Code.wp Tryd.prog kwR11 Q0 ⟨(t0 :: t1 :: t2 :: t3 :: t4 :: .int .i64 (n : Int) :: .pointer (some ⟨gB, 0, none⟩) :: t7 :: t8 :: t9 :: t10 :: t11 :: t12 :: t13 :: t14 :: t15 :: t16 :: t17 :: t18 :: t19 :: t20 :: t21 :: t22 :: t23 :: t24 :: t25 :: t26 :: t27 :: t28 :: t29 :: t30 :: t31 :: t32 :: t33 :: t34 :: t35 :: t36 :: t37 :: t38 :: t39 :: t40 :: t41 :: t42 :: t43 :: t44 :: t45 :: t46 :: t47 :: t48 :: t49 :: t50 :: t51 :: t52 :: t53 :: t54 :: t55 :: t56 :: t57 :: t58 :: t59 :: t60 :: t61 :: t62 :: t63 :: t64 :: t65 :: t66 :: t67 :: t68 :: t69 :: t70 :: t71 :: t72 :: t73 :: t74 :: t75 :: t76 :: t77 :: t78 :: t79 :: t80 :: t81 :: t82 :: t83 :: t84 :: t85 :: t86 :: t87 :: []).toArray, []⟩ W := by
  have hg : gB < W.heap.size := by
    rcases Nat.lt_or_ge gB W.heap.size with h1 | h1
    · exact h1
    · simp [World.cell?, Array.getElem?_eq_none h1] at hc
  have q5 : (n : Int) / 4 = (q : Int) := by omega
  have q1 : ((n : Int)).tdiv 4 = (q : Int) := by rw [Int.tdiv_eq_ediv_of_nonneg (by omega)]; omega
  have q6 : IntKind.i64.wrap ((q : Int) - 1) = (p : Int) := by rw [wraps_i64' _ (by omega) (by omega)]; omega
  have q7 : IntKind.i64.wrap (q : Int) = (q : Int) := wraps_i64' _ (by omega) (by omega)
  have q2 : wrap64 ((q : Int) - 1) = (p : Int) := by rw [IntWalk.wrap64_in _ (by omega)]; omega
  have q3 : p ≤ 1000 := by omega
  have hpl := pwr_lt 2 p
  have hxx : bits BinOp.xor IntKind.u8 ((x0 : Nat) : Int) ((pwr 2 p : Nat) : Int) = ((x0 ^^^ pwr 2 p : Nat) : Int) := xor_n8 _ _ hx hpl
  have hkeep : ∀ V : World, Below W.drew.heap.size W.drew V → V.cell? ⟨gB, 0, none⟩ = some (.int .u8 (x0 : Nat)) ∧ V.frozen? ⟨gB, 0, none⟩ = false ∧ Below W.heap.size W V := fun V h =>
    ⟨(h.cell (p := ⟨gB, 0, none⟩) hg).trans hc, (h.frozen (p := ⟨gB, 0, none⟩) hg).trans hf, ⟨h.os, h.tape, h.output, h.size, h.block⟩⟩
  have hQ2 := Lib.hid hQ
  clear hQ hq hp hn
  refine Code.wp_mono NoPanic.imp ?_
  conv => arg 2; whnf
  go_region_with (go_at_call 48; refine (refpow 2 p _ (by decide) q3).mono ?_; rintro e w9 ⟨rfl, hb9⟩; obtain ⟨k1, k2, k3⟩ := hkeep _ hb9)
  all_goals exact NoPanic.normal (hQ2.out _ k3)

noncomputable def kwR10 : Code := ((Tryd.f42.body.bind (regionNo 10)).getD .skip)

set_option maxHeartbeats 1600000 in
theorem kwReg10 (e0 e1 e2 e3 s0 s1 s2 s3 gt gB : Nat) {Q0 : Exit → Act → World → Prop} {t0 t1 t2 t4 t5 t7 t8 t9 t10 t11 t12 t13 t14 t15 t16 t17 t18 t19 t20 t21 t22 t23 t24 t25 t26 t27 t28 t29 t30 t31 t32 t33 t34 t35 t36 t37 t38 t39 t40 t41 t42 t43 t44 t45 t46 t47 t48 t49 t50 t51 t52 t53 t54 t55 t56 t57 t58 t59 t60 t61 t62 t63 t64 t65 t66 t67 t68 t69 t70 t71 t72 t73 t74 t75 t76 t77 t78 t79 t80 t81 t82 t83 t84 t85 t86 t87 : Value} {W : World} (t0c : W.cell? ⟨gB, 0, none⟩ = some (.int .u8 (e0 : Int))) (t0f : W.frozen? ⟨gB, 0, none⟩ = false) (t1c : W.cell? ⟨gB, 1, none⟩ = some (.int .u8 (e1 : Int))) (t1f : W.frozen? ⟨gB, 1, none⟩ = false) (t2c : W.cell? ⟨gB, 2, none⟩ = some (.int .u8 (e2 : Int))) (t2f : W.frozen? ⟨gB, 2, none⟩ = false) (t3c : W.cell? ⟨gB, 3, none⟩ = some (.int .u8 (e3 : Int))) (t3f : W.frozen? ⟨gB, 3, none⟩ = false) (b0 : W.cell? ⟨gt, e0, none⟩ = some (.int .u8 (s0 : Int))) (l0 : e0 < 256) (b1 : W.cell? ⟨gt, e1, none⟩ = some (.int .u8 (s1 : Int))) (l1 : e1 < 256) (b2 : W.cell? ⟨gt, e2, none⟩ = some (.int .u8 (s2 : Int))) (l2 : e2 < 256) (b3 : W.cell? ⟨gt, e3, none⟩ = some (.int .u8 (s3 : Int))) (l3 : e3 < 256)
    (hQ : Q0 .normal ⟨(t0 :: t1 :: t2 :: .pointer (some ⟨gt, 0, none⟩) :: t4 :: t5 :: .pointer (some ⟨gB, 0, none⟩) :: t7 :: t8 :: t9 :: t10 :: t11 :: t12 :: t13 :: t14 :: t15 :: t16 :: t17 :: t18 :: t19 :: t20 :: t21 :: t22 :: t23 :: t24 :: t25 :: t26 :: t27 :: t28 :: t29 :: t30 :: t31 :: t32 :: t33 :: t34 :: t35 :: t36 :: t37 :: t38 :: t39 :: t40 :: t41 :: t42 :: t43 :: .pointer (some ⟨gB, 1, none⟩) :: .int .u8 (e1 : Int) :: .pointer (some ⟨gt, e1, none⟩) :: .int .u8 (s1 : Int) :: .pointer (some ⟨gB, 2, none⟩) :: .int .u8 (e2 : Int) :: .pointer (some ⟨gt, e2, none⟩) :: .int .u8 (s2 : Int) :: .pointer (some ⟨gB, 3, none⟩) :: .int .u8 (e3 : Int) :: .pointer (some ⟨gt, e3, none⟩) :: .int .u8 (s3 : Int) :: .pointer (some ⟨gB, 0, none⟩) :: .int .u8 (e0 : Int) :: .pointer (some ⟨gt, e0, none⟩) :: .int .u8 (s0 : Int) :: .agg #[.int .u8 (s1 : Int), .int .u8 (s2 : Int), .int .u8 (s3 : Int), .int .u8 (s0 : Int)] :: t61 :: t62 :: t63 :: t64 :: t65 :: t66 :: t67 :: t68 :: t69 :: t70 :: t71 :: t72 :: t73 :: t74 :: t75 :: t76 :: t77 :: t78 :: t79 :: t80 :: t81 :: t82 :: t83 :: t84 :: t85 :: t86 :: t87 :: []).toArray, []⟩ (((((W.setCell ⟨gB, 0, none⟩ (.int .u8 (s1 : Int))).setCell ⟨gB, 1, none⟩ (.int .u8 (s2 : Int))).setCell ⟨gB, 2, none⟩ (.int .u8 (s3 : Int))).setCell ⟨gB, 3, none⟩ (.int .u8 (s0 : Int))).drew)) :
    Code.wp Tryd.prog kwR10 Q0 ⟨(t0 :: t1 :: t2 :: .pointer (some ⟨gt, 0, none⟩) :: t4 :: t5 :: .pointer (some ⟨gB, 0, none⟩) :: t7 :: t8 :: t9 :: t10 :: t11 :: t12 :: t13 :: t14 :: t15 :: t16 :: t17 :: t18 :: t19 :: t20 :: t21 :: t22 :: t23 :: t24 :: t25 :: t26 :: t27 :: t28 :: t29 :: t30 :: t31 :: t32 :: t33 :: t34 :: t35 :: t36 :: t37 :: t38 :: t39 :: t40 :: t41 :: t42 :: t43 :: t44 :: t45 :: t46 :: t47 :: t48 :: t49 :: t50 :: t51 :: t52 :: t53 :: t54 :: t55 :: t56 :: t57 :: t58 :: t59 :: t60 :: t61 :: t62 :: t63 :: t64 :: t65 :: t66 :: t67 :: t68 :: t69 :: t70 :: t71 :: t72 :: t73 :: t74 :: t75 :: t76 :: t77 :: t78 :: t79 :: t80 :: t81 :: t82 :: t83 :: t84 :: t85 :: t86 :: t87 :: []).toArray, []⟩ W := by
  have i0 : (e0 : Int) < 256 := by omega
  have i1 : (e1 : Int) < 256 := by omega
  have i2 : (e2 : Int) < 256 := by omega
  have i3 : (e3 : Int) < 256 := by omega
  have hQ2 := Lib.hid hQ
  clear hQ
  refine Code.wp_mono NoPanic.imp ?_
  conv => arg 2; whnf
  go_big_region
  exact NoPanic.normal hQ2.out
end Go.Proofs.YtghcpfcomhfppaaDoor
