/-
  The inner loop of the reference's words of a key (w[i][k] = w[i-4][k] ^ t[k]), as a text of its own: whatever the frame.
-/
import Derived.Test.YtghcpfcomhfppaaDoorFre
import Derived.Deep.RegionHeld3
import Derived.BigRegion
namespace Go.Proofs.YtghcpfcomhfppaaDoor
open Go.RowKit
set_option linter.unusedVariables false
set_option maxRecDepth 100000

/-- The first loop of a code that lies in no loop. -/
def loopIn : Code → Option Code
  | .loop c => some (.loop c)
  | .seq a b => match loopIn a with
    | some c => some c
    | none => loopIn b
  | .block _ c => loopIn c
  | .scope c => loopIn c
  | .cond _ a b => match loopIn a with
    | some c => some c
    | none => loopIn b
  | _ => none
def bodyOf : Code → Code
  | .loop c => c
  | c => c
noncomputable def kwLoopC : Code := ((Tryd.f42.body.bind fun c => (loopIn c).bind fun l => loopIn (bodyOf l)).getD .skip)

/-- What was there and is not in block g is as it was. -/
def OnlyIn (g : Nat) (W w' : World) : Prop := (∀ g' N F, g' ≠ g → Ar W g' N F → Ar w' g' N F) ∧ (∀ B w0, B ≤ g → Below B w0 W → Below B w0 w')
theorem OnlyIn.refl (g : Nat) (W : World) : OnlyIn g W W := ⟨fun _ _ _ _ h => h, fun _ _ _ h => h⟩
theorem OnlyIn.set {g : Nat} {W w' : World} (h : OnlyIn g W w') (o : Nat) (v : Value) : OnlyIn g W (w'.setCell ⟨g, o, none⟩ v).drew :=
  ⟨fun g' N F hg hA => ((h.1 g' N F hg hA).far (p := ⟨g, o, none⟩) (fun e => hg e.symm) v).drew, fun B w0 hB hb => ((h.2 B w0 hB hb).setCell (p := ⟨g, o, none⟩) hB v).drew⟩
theorem ek_one (f : Nat → Nat) (n k m : Nat) : (if m = n * 4 + k then ek f (4 * n + k) else (if m < 4 * n + k then ek f m else 0)) = if m < 4 * n + (k + 1) then ek f m else 0 := by
  by_cases h : m = n * 4 + k
  · rw [if_pos h, if_pos (by omega), h, Nat.mul_comm n 4]
  · rw [if_neg h]
    by_cases h2 : m < 4 * n + k
    · rw [if_pos h2, if_pos (by omega)]
    · rw [if_neg h2, if_neg (by omega)]
theorem Ar.low {w : World} {g N c j : Nat} {f : Nat → Nat} (h : Ar w g N (fun m => if m < c then f m else 0)) (hj : j < c) (hN : j < N) : w.cell? ⟨g, j, none⟩ = some (.int .u8 (f j : Nat)) ∧ w.frozen? ⟨g, j, none⟩ = false := by
  have := h j hN
  dsimp only at this
  rwa [if_pos hj] at this

set_option maxHeartbeats 1600000 in
theorem kwLoop (n : Nat) (f T : Nat → Nat) (gB gW : Nat) {Q0 : Exit → Act → World → Prop} {t0 t1 t2 t3 t8 t9 t10 t11 t12 t13 t14 t15 t16 t17 t18 t19 t20 t21 t22 t23 t24 t25 t26 t27 t28 t29 t30 t31 t32 t33 t34 t35 t36 t37 t38 t39 t40 t41 t42 t43 t44 t45 t46 t47 t48 t49 t50 t51 t52 t53 t54 t55 t56 t57 t58 t59 t60 t61 t62 t63 t64 t65 t66 t67 t68 t87 c69 c70 c71 c72 c73 c74 c75 c76 c77 c78 c79 c80 c81 c82 c83 c84 c85 c86 : Value} {W : World} (h4 : 4 ≤ n) (hlt : n < 44) (hg : gB ≠ gW)
    (hf : ∀ j, ek f j < 256) (hT : ∀ k, k < 4 → T k < 256) (hxor : ∀ k, k < 4 → ek f ((n - 4) * 4 + k) ^^^ T k = ek f (4 * n + k)) (hA : Ar W gB 4 T) (hW : Ar W gW 176 (fun m => if m < 4 * n then ek f m else 0))
    (hQ : ∀ (w' : World) (u7 u69 u70 u71 u72 u73 u74 u75 u76 u77 u78 u79 u80 u81 u82 u83 u84 u85 u86 : Value), Ar w' gW 176 (fun m => if m < 4 * (n + 1) then ek f m else 0) → OnlyIn gW W w' → Q0 (.exit 2) ⟨(t0 :: t1 :: t2 :: t3 :: .pointer (some ⟨gW, 0, none⟩) :: .int .i64 (n : Int) :: .pointer (some ⟨gB, 0, none⟩) :: u7 :: t8 :: t9 :: t10 :: t11 :: t12 :: t13 :: t14 :: t15 :: t16 :: t17 :: t18 :: t19 :: t20 :: t21 :: t22 :: t23 :: t24 :: t25 :: t26 :: t27 :: t28 :: t29 :: t30 :: t31 :: t32 :: t33 :: t34 :: t35 :: t36 :: t37 :: t38 :: t39 :: t40 :: t41 :: t42 :: t43 :: t44 :: t45 :: t46 :: t47 :: t48 :: t49 :: t50 :: t51 :: t52 :: t53 :: t54 :: t55 :: t56 :: t57 :: t58 :: t59 :: t60 :: t61 :: t62 :: t63 :: t64 :: t65 :: t66 :: t67 :: t68 :: u69 :: u70 :: u71 :: u72 :: u73 :: u74 :: u75 :: u76 :: u77 :: u78 :: u79 :: u80 :: u81 :: u82 :: u83 :: u84 :: u85 :: u86 :: t87 :: []).toArray, []⟩ w') :
    Code.wp Tryd.prog kwLoopC Q0 ⟨(t0 :: t1 :: t2 :: t3 :: .pointer (some ⟨gW, 0, none⟩) :: .int .i64 (n : Int) :: .pointer (some ⟨gB, 0, none⟩) :: .int .i64 0 :: t8 :: t9 :: t10 :: t11 :: t12 :: t13 :: t14 :: t15 :: t16 :: t17 :: t18 :: t19 :: t20 :: t21 :: t22 :: t23 :: t24 :: t25 :: t26 :: t27 :: t28 :: t29 :: t30 :: t31 :: t32 :: t33 :: t34 :: t35 :: t36 :: t37 :: t38 :: t39 :: t40 :: t41 :: t42 :: t43 :: t44 :: t45 :: t46 :: t47 :: t48 :: t49 :: t50 :: t51 :: t52 :: t53 :: t54 :: t55 :: t56 :: t57 :: t58 :: t59 :: t60 :: t61 :: t62 :: t63 :: t64 :: t65 :: t66 :: t67 :: t68 :: c69 :: c70 :: c71 :: c72 :: c73 :: c74 :: c75 :: c76 :: c77 :: c78 :: c79 :: c80 :: c81 :: c82 :: c83 :: c84 :: c85 :: c86 :: t87 :: []).toArray, []⟩ W := by
  have hQ2 := Lib.hid hQ
  have hT2 := Lib.hid hT
  have hx2 := Lib.hid hxor
  have hf2 := Lib.hid hf
  have hA2 := Lib.hid hA
  have hW2 : Hid (Ar W gW 176 (fun m => if m < 4 * n + 0 then ek f m else 0)) := hW
  clear hQ hT hxor hf hA hW
  conv => arg 2; whnf
  go_loopw [7] (fun j ws => ∃ k : Nat, k ≤ 4 ∧ j = .int .i64 k ∧ Ar ws gW 176 (fun m => if m < 4 * n + k then ek f m else 0) ∧ OnlyIn gW W ws) (fun j _ => 4 - (intOf j).toNat)
  case atStart => exact ⟨0, Nat.zero_le _, rfl, hW2.out, OnlyIn.refl _ _⟩
  case round =>
    obtain ⟨k, hk, rfl, hW, hO⟩ := hrel
    by_cases hlk : k < 4
    · obtain ⟨m, hm⟩ : ∃ m : Nat, m = n - 4 := ⟨_, rfl⟩
      have hk1 : m * 4 + k < 4 * n + k := by omega
      obtain ⟨c0, _⟩ := hW.low (j := m * 4 + k) hk1 (by omega)
      obtain ⟨c1, _⟩ := (hO.1 gB 4 T hg hA2.out) k hlk
      obtain ⟨c2, f2⟩ := hW (n * 4 + k) (by omega)
      have i1 : (n : Int) < 44 := by omega
      have i2 : (m : Int) < 44 := by omega
      have i4 : (k : Int) < 4 := by omega
      have e3 : (n : Int) - 4 = (m : Int) := by omega
      have e4 : wrap64 ((n : Int) - 4) = (m : Int) := by rw [IntWalk.wrap64_in _ (by omega)]; omega
      have e5 : IntKind.i64.wrap ((n : Int) - 4) = (m : Int) := by rw [wraps_i64' _ (by omega) (by omega)]; omega
      have e6 : IntKind.i64.wrap (m : Int) = (m : Int) := wraps_i64' _ (by omega) (by omega)
      have hx : bits BinOp.xor IntKind.u8 ((ek f (m * 4 + k) : Nat) : Int) ((T k : Nat) : Int) = ((ek f (4 * n + k) : Nat) : Int) := by
        rw [xor_n8 _ _ (hf2.out _) (hT2.out k hlk), hm, hx2.out k hlk]
      have hW3 := (hW.set (j := n * 4 + k) (v := ek f (4 * n + k)) (by omega) rfl).ext (fun m _ => ek_one f n k m)
      have hO3 := hO.set (n * 4 + k) (.int .u8 (ek f (4 * n + k) : Nat))
      clear hW hO hm hk1
      have HW := Lib.hid hW3
      have HO := Lib.hid hO3
      clear hW3 hO3
      go_wp2_with fail
      refine wp_region_noPanic ?_
      go_big_region
      refine NoPanic.normal ?_
      go_wp2_with fail
      go_roundw
      case rel => exact ⟨k + 1, by omega, by go_num, HW.out.drew, HO.out⟩
      case measure => simp [intOf]; omega
    · obtain rfl : k = 4 := by omega
      go_wp2_with fail
      exact hQ2.out _ _ _ _ _ _ _ _ _ _ _ _ _ _ _ _ _ _ _ _ hW hO
end Go.Proofs.YtghcpfcomhfppaaDoor
