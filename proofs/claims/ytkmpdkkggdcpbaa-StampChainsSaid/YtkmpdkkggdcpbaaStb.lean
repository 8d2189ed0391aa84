/-
  Package stamp's Sample, which asks for None by a closure, and the check of the documentation's examples of layer 16; what was there stays as it was.
-/
import Derived.Test.YtkmpdkkggdcpbaaSta
namespace Go.Proofs.Ytkmpdkkggdcpbaa
open Go.RowKit
set_option linter.unusedVariables false
set_option linter.unusedSimpArgs false
set_option maxRecDepth 100000

theorem stnone (b e : Nat) (w : World) (h : w.cell? ⟨b, 0, none⟩ = some (.int .u16 (e : Int))) :
    Calls Try.prog 20 #[.pointer (some ⟨b, 0, none⟩)] w fun r w' => r = .returned (.bool (decide (e = 65535))) ∧ w' = w := by
  by_cases h0 : e = 65535
  · subst h0
    go_enter Try.func20, Try.ntmps20
    go_wp2_with fail
    go_ret
    exact ⟨rfl, rfl⟩
  · have h1 : ((e : Int) == 65535) = false := by simp; omega
    go_enter Try.func20, Try.ntmps20
    go_wp2_with fail
    go_ret
    exact ⟨ret_bool (by simp [h0]), rfl⟩

set_option maxHeartbeats 400000 in
theorem stsample (x e : Nat) (w : World) (hx : x < 65536) (he : e < 65536) :
    Calls Try.prog 17 #[.int .u16 (x : Int), .int .u16 (e : Int)] w fun r w' => r = .returned (.tuple #[.int .u16 (smN x e : Nat), .bool (decide (e ≠ 65535))]) ∧ Below w.heap.size w w' := by
  have hw : (w.alloc (.cells #[.int .u16 (e : Int)] 24)).cell? ⟨w.heap.size, 0, none⟩ = some (.int .u16 (e : Int)) := World.cell?_alloc_at _ _ _ _ rfl
  have hb : Below w.heap.size w (w.alloc (.cells #[.int .u16 (e : Int)] 24)) := (Below.refl _ _).alloc (Nat.le_refl _) _
  by_cases h0 : e = 65535
  · have e1 : smN x e = 0 := by unfold smN; rw [if_pos h0]
    have e2 : decide (e ≠ 65535) = false := by simp [h0]
    have e3 : decide (e = 65535) = true := by simp [h0]
    rw [e1, e2]
    clear h0 e1 e2
    go_enter Try.func17, Try.ntmps17
    go_wp2_with fail
    refine (stnone _ e _ hw).mono ?_
    rintro r w' ⟨rfl, rfl⟩
    rw [e3]
    go_wp2_with fail
    go_ret2
    exact ⟨rfl, hb⟩
  · have e1 := Lib.hid (show smN x e = dfN x e by unfold smN; rw [if_neg h0])
    have e2 : decide (e ≠ 65535) = true := by simp [h0]
    have e3 : decide (e = 65535) = false := by simp [h0]
    rw [e1.out, e2]
    clear h0 e1 e2
    go_enter Try.func17, Try.ntmps17
    go_wp2_with fail
    refine (stnone _ e _ hw).mono ?_
    rintro r w' ⟨rfl, rfl⟩
    rw [e3]
    go_wp2_with fail
    refine (stdiff x e _ hx he).mono ?_
    rintro r w' ⟨rfl, rfl⟩
    go_wp2_with fail
    go_ret2
    exact ⟨rfl, hb⟩

set_option maxHeartbeats 1600000 in
theorem stawake (w : World) : Calls Try.prog 9 #[] w fun e w' => e = .returned (.bool true) ∧ Below w.heap.size w w' := by
  go_enter Try.func9, Try.ntmps9
  go_wp2_with fail
  refine (stsample 10 7 _ (by omega) (by omega)).mono ?_
  rintro e w1 ⟨rfl, k1⟩
  rw [show smN 10 7 = 3 from by decide, show decide (7 ≠ 65535) = true from by decide]
  go_wp2_with fail
  refine (stsample 10 65535 _ (by omega) (by omega)).mono ?_
  rintro e w2 ⟨rfl, k2⟩
  rw [show smN 10 65535 = 0 from by decide, show decide (65535 ≠ 65535) = false from by decide]
  have k3 := k1.trans (k2.mono k1.size)
  clear k1 k2
  go_wp2_with fail
  refine (stof 65537 _ (by omega)).mono ?_
  rintro e w' ⟨rfl, rfl⟩
  rw [show 65537 % 65536 = 1 from by decide]
  go_wp2_with fail
  refine (stdiff 2 65535 _ (by omega) (by omega)).mono ?_
  rintro e w' ⟨rfl, rfl⟩
  rw [show dfN 2 65535 = 3 from by decide]
  go_wp2_with fail
  refine (stecho 65000 535 _ (by omega) (by omega)).mono ?_
  rintro e w' ⟨rfl, rfl⟩
  rw [show ecN 65000 535 = 65535 from by decide]
  go_wp2_with fail
  refine (stecho 5 1001 _ (by omega) (by omega)).mono ?_
  rintro e w' ⟨rfl, rfl⟩
  rw [show ecN 5 1001 = 65535 from by decide]
  go_wp2_with fail
  refine (stecho 5 2 _ (by omega) (by omega)).mono ?_
  rintro e w' ⟨rfl, rfl⟩
  rw [show ecN 5 2 = 7 from by decide]
  go_wp2_with fail
  refine (stbefore 65535 0 _ (by omega) (by omega)).mono ?_
  rintro e w' ⟨rfl, rfl⟩
  rw [show bfN 65535 0 = true from by decide]
  go_wp2_with fail
  refine (stbefore 0 0 _ (by omega) (by omega)).mono ?_
  rintro e w' ⟨rfl, rfl⟩
  rw [show bfN 0 0 = false from by decide]
  go_wp2_with fail
  refine (stadd 0 (-1) _ (by omega) (by omega)).mono ?_
  rintro e w' ⟨rfl, rfl⟩
  rw [show adN 0 (-1) = 65535 from by decide]
  go_wp2_with fail
  go_ret
  exact ⟨rfl, k3⟩
end Go.Proofs.Ytkmpdkkggdcpbaa
