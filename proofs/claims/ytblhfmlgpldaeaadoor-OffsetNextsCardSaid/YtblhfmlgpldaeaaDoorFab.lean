/-
  Contracts of the library's rotation of a word by eight, sixteen and twenty-four bits to the right, and of fast.stack and fast.gather, by walks through their texts; nothing is written.
-/
import Derived.Test.YtblhfmlgpldaeaaDoorFre
namespace Go.Proofs.YtblhfmlgpldaeaaDoor
open Go.RowKit
set_option linter.unusedVariables false
set_option maxRecDepth 100000

theorem rotr8 (x : Nat) (w : World) (hx : x < 4294967296) :
    Calls Tryd.prog 74 #[.int .u32 x, .int .i64 (-8)] w fun e w' => e = .returned (.int .u32 (rotN x 24 : Nat)) ∧ w' = w := by
  have hr : Hid (bits BinOp.or IntKind.u32 ((x : Int) * 2 ^ 24 % 4294967296) ((x : Int) / 2 ^ 8) = ((rotN x 24 : Nat) : Int)) := by
    have e1 : ((x : Int) * 2 ^ 24 % 4294967296) = ((x * 2 ^ 24 % 4294967296 : Nat) : Int) := by simp
    have e2 : ((x : Int) / 2 ^ 8) = ((x / 2 ^ (32 - 24) : Nat) : Int) := by simp
    unfold Hid
    rw [e1, e2, or_u32 _ _ (Nat.mod_lt _ (by decide)) (Nat.lt_of_le_of_lt (Nat.div_le_self _ _) hx), rot_or x 24 hx (by decide)]
  have hk1 : IntKind.u64.wrap (-8) = 18446744073709551608 := by decide +kernel
  have hk2 : bits BinOp.and IntKind.u64 18446744073709551608 31 = 24 := by decide +kernel
  go_enter Tryd.func74, Tryd.ntmps74
  go_wp2
  go_ret
  exact ⟨fret_of hr.out, rfl⟩

theorem rotr16 (x : Nat) (w : World) (hx : x < 4294967296) :
    Calls Tryd.prog 74 #[.int .u32 x, .int .i64 (-16)] w fun e w' => e = .returned (.int .u32 (rotN x 16 : Nat)) ∧ w' = w := by
  have hr : Hid (bits BinOp.or IntKind.u32 ((x : Int) * 2 ^ 16 % 4294967296) ((x : Int) / 2 ^ 16) = ((rotN x 16 : Nat) : Int)) := by
    have e1 : ((x : Int) * 2 ^ 16 % 4294967296) = ((x * 2 ^ 16 % 4294967296 : Nat) : Int) := by simp
    have e2 : ((x : Int) / 2 ^ 16) = ((x / 2 ^ (32 - 16) : Nat) : Int) := by simp
    unfold Hid
    rw [e1, e2, or_u32 _ _ (Nat.mod_lt _ (by decide)) (Nat.lt_of_le_of_lt (Nat.div_le_self _ _) hx), rot_or x 16 hx (by decide)]
  have hk1 : IntKind.u64.wrap (-16) = 18446744073709551600 := by decide +kernel
  have hk2 : bits BinOp.and IntKind.u64 18446744073709551600 31 = 16 := by decide +kernel
  go_enter Tryd.func74, Tryd.ntmps74
  go_wp2
  go_ret
  exact ⟨fret_of hr.out, rfl⟩

theorem rotr24 (x : Nat) (w : World) (hx : x < 4294967296) :
    Calls Tryd.prog 74 #[.int .u32 x, .int .i64 (-24)] w fun e w' => e = .returned (.int .u32 (rotN x 8 : Nat)) ∧ w' = w := by
  have hr : Hid (bits BinOp.or IntKind.u32 ((x : Int) * 2 ^ 8 % 4294967296) ((x : Int) / 2 ^ 24) = ((rotN x 8 : Nat) : Int)) := by
    have e1 : ((x : Int) * 2 ^ 8 % 4294967296) = ((x * 2 ^ 8 % 4294967296 : Nat) : Int) := by simp
    have e2 : ((x : Int) / 2 ^ 24) = ((x / 2 ^ (32 - 8) : Nat) : Int) := by simp
    unfold Hid
    rw [e1, e2, or_u32 _ _ (Nat.mod_lt _ (by decide)) (Nat.lt_of_le_of_lt (Nat.div_le_self _ _) hx), rot_or x 8 hx (by decide)]
  have hk1 : IntKind.u64.wrap (-24) = 18446744073709551592 := by decide +kernel
  have hk2 : bits BinOp.and IntKind.u64 18446744073709551592 31 = 8 := by decide +kernel
  go_enter Tryd.func74, Tryd.ntmps74
  go_wp2
  go_ret
  exact ⟨fret_of hr.out, rfl⟩

theorem fstack (a b c d : Nat) (w : World) (ha : a < 4294967296) (hb : b < 4294967296) (hc : c < 4294967296) (hd : d < 4294967296) :
    Calls Tryd.prog 66 #[.int .u32 a, .int .u32 b, .int .u32 c, .int .u32 d] w fun e w' => e = .returned (.int .u32 (stk a b c d : Nat)) ∧ w' = w := by
  have hb2 := rotN_lt b hb 24
  have hc2 := rotN_lt c hc 16
  have hd2 := rotN_lt d hd 8
  have e1 := Lib.hid (xor_u32 a (rotN b 24) ha hb2)
  have l1 := xor32_lt a (rotN b 24) ha hb2
  have e2 := Lib.hid (xor_u32 _ (rotN c 16) l1 hc2)
  have l2 := xor32_lt _ (rotN c 16) l1 hc2
  have e3 := Lib.hid (xor_u32 _ (rotN d 8) l2 hd2)
  have r1 := Lib.hid (rotr8 b w hb)
  have r2 := Lib.hid (rotr16 c w hc)
  have r3 := Lib.hid (rotr24 d w hd)
  rw [show stk a b c d = a ^^^ rotN b 24 ^^^ rotN c 16 ^^^ rotN d 8 from rfl]
  generalize rotN b 24 = rb at *
  generalize rotN c 16 = rc at *
  generalize rotN d 8 = rd at *
  go_enter Tryd.func66, Tryd.ntmps66
  go_wp2_with fail
  refine r1.out.mono ?_
  rintro e w' ⟨rfl, rfl⟩
  have e1 := e1.out
  go_wp2_with fail
  refine r2.out.mono ?_
  rintro e w' ⟨rfl, rfl⟩
  have e2 := e2.out
  go_wp2_with fail
  refine r3.out.mono ?_
  rintro e w' ⟨rfl, rfl⟩
  have e3 := e3.out
  go_wp2_with fail
  go_ret
  exact ⟨rfl, rfl⟩

theorem gat_facts (a b c d : Nat) (ha : a < 4294967296) (hb : b < 4294967296) (hc : c < 4294967296) (hd : d < 4294967296) : ∃ A B C D X Y : Nat,
    bits .and .u32 (a : Int) 4278190080 = (A : Int) ∧ bits .and .u32 (b : Int) 16711680 = (B : Int) ∧ bits .and .u32 (c : Int) 65280 = (C : Int) ∧ bits .and .u32 (d : Int) 255 = (D : Int) ∧
    bits .or .u32 (A : Int) (B : Int) = (X : Int) ∧ bits .or .u32 (X : Int) (C : Int) = (Y : Int) ∧ bits .or .u32 (Y : Int) (D : Int) = ((gat a b c d : Nat) : Int) := by
  have l0 := wb_lt a 0
  have l1 := wb_lt b 1
  have l2 := wb_lt c 2
  have l3 := wb_lt d 3
  have n1 : wb a 0 * 16777216 ||| wb b 1 * 65536 < 4294967296 := Nat.or_lt_two_pow (n := 32) (by omega) (by omega)
  have n2 : wb a 0 * 16777216 ||| wb b 1 * 65536 ||| wb c 2 * 256 < 4294967296 := Nat.or_lt_two_pow (n := 32) n1 (by omega)
  refine ⟨wb a 0 * 16777216, wb b 1 * 65536, wb c 2 * 256, wb d 3, _, _, ?_, ?_, ?_, ?_, or_u32 _ _ (by omega) (by omega), or_u32 _ _ n1 (by omega), ?_⟩
  · have h := and_u32 a 4278190080 ha (by decide); rw [and_b0 a ha] at h; exact h
  · have h := and_u32 b 16711680 hb (by decide); rw [and_b1 b hb] at h; exact h
  · have h := and_u32 c 65280 hc (by decide); rw [and_b2 c hc] at h; exact h
  · have h := and_u32 d 255 hd (by decide); rw [and_b3 d] at h; exact h
  · rw [or_u32 _ _ n2 (by omega), quad_or _ _ _ _ l1 l2 l3]; rfl
theorem fgather (a b c d : Nat) (w : World) (ha : a < 4294967296) (hb : b < 4294967296) (hc : c < 4294967296) (hd : d < 4294967296) :
    Calls Tryd.prog 68 #[.int .u32 a, .int .u32 b, .int .u32 c, .int .u32 d] w fun e w' => e = .returned (.int .u32 (gat a b c d : Nat)) ∧ w' = w := by
  obtain ⟨A, B, C, D, X, Y, a0, a1, a2, a3, o1, o2, o3⟩ := gat_facts a b c d ha hb hc hd
  go_enter Tryd.func68, Tryd.ntmps68
  go_wp2
  go_ret
  exact ⟨rfl, rfl⟩
end Go.Proofs.YtblhfmlgpldaeaaDoor
