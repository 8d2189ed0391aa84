/-
  The walk of the law BlockShifts of layer 8: for any 24 bytes and every number of bits it returns true, and writes nothing that was there.
-/
import Derived.Test.YtejgeefhnpeejaaBki
import Derived.Test.YtejgeefhnpeejaaBkq
import Derived.Test.YtejgeefhnpeejaaBre
import Derived.Test.YtejgeefhnpeejaaBrf
import Derived.Test.YtejgeefhnpeejaaBrd
import Derived.Deep.RegionHeld3
namespace Go.Proofs.Ytejgeefhnpeejaa
open Go.RowKit
set_option linter.unusedVariables false
set_option maxRecDepth 100000

set_option maxHeartbeats 8000000 in
theorem bshifts (b : Nat → Nat) (n : Int) (w : World) (hb : ∀ j, j < 24 → b j < 256)  :
    Calls Try.prog 4 #[.agg (arL 24 b).toArray, .int .i64 n] w fun e w' => e = .returned (.bool true) ∧ Below w.heap.size w w' := by
  have hz := zero16x
  have m0 := Lib.hid run_bx0
  have m128 := Lib.hid run_bx128
  have m2 := Lib.hid run_bx2
  have m7 := Lib.hid run_bx7
  have m135 := Lib.hid run_bx135
  have n1 := Lib.hid run_by1
  have heq := fun X => eqx_true (f := X) (g := X) (fun _ _ => rfl)
  have hgd := Try.eqgx
  have hmm := clampN_eq n
  have hml := clampN_le n
  obtain ⟨m, hm⟩ : ∃ m : Nat, clampN n = m := ⟨_, rfl⟩
  rw [hm] at hmm hml
  obtain ⟨p, hp⟩ : ∃ p : Int, max n 0 = p := ⟨_, rfl⟩
  rw [hp] at hmm
  have HM := Lib.hid hm
  clear hm
  have Hb := Lib.hid hb
  obtain ⟨kb, hkb⟩ : ∃ k : Array Value, (arL 24 b).toArray = k := ⟨_, rfl⟩
  obtain ⟨w1, hw1⟩ : ∃ V : World, V = w.alloc (.cells (arL 24 b).toArray 27) := ⟨_, rfl⟩
  have hs1 : w1.heap.size = w.heap.size + 1 := by rw [hw1]; simp
  have hBw1 : Below w.heap.size w w1 := by rw [hw1]; exact (Below.refl _ _).alloc (Nat.le_refl _) _
  have hbw1 : Ar w1 w.heap.size 24 b := by rw [hw1]; exact Ar.new w 24 b _
  rw [hkb] at hw1
  rw [hkb]
  clear hkb hb
  go_enter Try.func4, Try.ntmps4
  go_upto_region 1 with fail
  rw [← hw1]
  clear hw1
  try simp only [Nat.add_assoc, Nat.reduceAdd]
  obtain ⟨gb, hgb⟩ : ∃ g : Nat, w.heap.size = g := ⟨_, rfl⟩
  rw [hgb] at hbw1
  try simp only [hgb]
  have hlb : w.heap.size ≤ gb := by omega
  clear  hs1
  go_wp2_with fail
  refine (bawake _).mono ?_
  rintro e x1 ⟨rfl, hq⟩
  have hbx1 := (hbw1).to (by omega) hq
  have hBx1 := hBw1.trans (hq.mono hBw1.size)
  clear hq hbw1 hBw1
  go_upto_region 3 with fail
  refine wp_region_held_drew (S := fun W => Ar W gb 24 (b) ∧ Below w.heap.size w W) (by kernel_rfl) ⟨hbx1.drew, hBx1.drew⟩ (fun hHeld => ?_)
  clear hbx1 hBx1 
  generalize World.drew x1 = qd at *
  refine wpAnyH_take (i := 0) (v := .agg (arL 24 (b)).toArray) rfl (by kernel_rfl) (by kernel_rfl) (by kernel_rfl) (fun _ _ _ h => h) (yieldsIf_load_mid (by rfl) _ _ rfl gb (0) rfl (arL 24 (b)) _ (fun W hSw => hSw.1.range) Try.arr24 rfl (size24x _)) (by assumption) ?_
  simp only [Act.put, List.setIfInBounds_toArray, List.set_cons_zero, List.set_cons_succ, List.getElem_toArray, List.getElem_cons_zero]
  refine wpAnyH_take (i := 1) (v := ?vq1) rfl (by kernel_rfl) (by kernel_rfl) (by kernel_rfl) (fun _ _ _ h => h) (Or.inl ⟨by rfl, ?hyq1⟩) (by assumption) ?restq1
  case hyq1 =>
    intro W hSw
    go_simp
    try with_reducible rfl
  simp only [Act.put, List.setIfInBounds_toArray, List.set_cons_zero, List.set_cons_succ, List.getElem_toArray, List.getElem_cons_zero, List.getElem_cons_succ]
  refine wpAnyH_take (i := 3) (v := .agg (arL 24 (b)).toArray) rfl (by kernel_rfl) (by kernel_rfl) (by kernel_rfl) (fun _ _ _ h => h) (yieldsIf_load_mid (by rfl) _ _ rfl gb (0) rfl (arL 24 (b)) _ (fun W hSw => hSw.1.range) Try.arr24 rfl (size24x _)) (by assumption) ?_
  simp only [Act.put, List.setIfInBounds_toArray, List.set_cons_zero, List.set_cons_succ, List.getElem_toArray, List.getElem_cons_zero, List.getElem_cons_succ]
  refine wpAnyH_take (i := 4) (v := ?vq2) rfl (by kernel_rfl) (by kernel_rfl) (by kernel_rfl) (fun _ _ _ h => h) (Or.inl ⟨by rfl, ?hyq2⟩) (by assumption) ?restq2
  case hyq2 =>
    intro W hSw
    go_simp
    try with_reducible rfl
  simp only [Act.put, List.setIfInBounds_toArray, List.set_cons_zero, List.set_cons_succ, List.getElem_toArray, List.getElem_cons_zero, List.getElem_cons_succ]
  refine wpAnyH_take (i := 5) (v := ?vq3) rfl (by kernel_rfl) (by kernel_rfl) (by kernel_rfl) (fun _ _ _ h => h) (Or.inl ⟨by rfl, ?hyq3⟩) (by assumption) ?restq3
  case hyq3 =>
    intro W hSw
    go_simp
    try with_reducible rfl
  simp only [Act.put, List.setIfInBounds_toArray, List.set_cons_zero, List.set_cons_succ, List.getElem_toArray, List.getElem_cons_zero, List.getElem_cons_succ]
  refine wpAnyH_take (i := 6) (v := ?vq4) rfl (by kernel_rfl) (by kernel_rfl) (by kernel_rfl) (fun _ _ _ h => h) (Or.inl ⟨by rfl, ?hyq4⟩) (by assumption) ?restq4
  case hyq4 =>
    intro W hSw
    go_simp
    try with_reducible rfl
  simp only [Act.put, List.setIfInBounds_toArray, List.set_cons_zero, List.set_cons_succ, List.getElem_toArray, List.getElem_cons_zero, List.getElem_cons_succ]
  refine wpAnyH_ready (rs := [2]) (by kernel_rfl) (by simp) ?_
  refine AllReadyH.cons rfl (fun K hK => ?_) AllReadyH.nil
  go_simp
  refine (bshift b n _ Hb.out).mono ?_
  rintro e q5 ⟨rfl, hq⟩
  rw [HM.out]
  go_wp2_with fail
  refine hK.out _ _ ⟨(hHeld.1).to (by omega) hq, (hHeld.2).trans (hq.mono (hHeld.2).size)⟩ (fun hHeld2 => ?_)
  clear hK K hHeld hq
  have hHeld := hHeld2
  clear hHeld2
  try simp only [Act.put, List.setIfInBounds_toArray, List.set_cons_zero, List.set_cons_succ, List.getElem_toArray, List.getElem_cons_zero, List.getElem_cons_succ]
  refine wpAnyH_ready (rs := [7]) (by kernel_rfl) (by simp) ?_
  refine AllReadyH.cons rfl (fun K hK => ?_) AllReadyH.nil
  go_simp
  refine (refshift8 b m _ Hb.out hml).mono ?_
  rintro e q6 ⟨rfl, hq⟩
  go_wp2_with fail
  refine hK.out _ _ ⟨(hHeld.1).to (by omega) hq, (hHeld.2).trans (hq.mono (hHeld.2).size)⟩ (fun hHeld2 => ?_)
  clear hK K hHeld hq
  have hHeld := hHeld2
  clear hHeld2
  try simp only [Act.put, List.setIfInBounds_toArray, List.set_cons_zero, List.set_cons_succ, List.getElem_toArray, List.getElem_cons_zero, List.getElem_cons_succ]
  refine wpAnyH_take (i := 8) (v := ?vq7) rfl (by kernel_rfl) (by kernel_rfl) (by kernel_rfl) (fun _ _ _ h => h) (Or.inl ⟨by rfl, ?hyq7⟩) (by assumption) ?restq7
  case hyq7 =>
    intro W hSw
    go_simp
    try with_reducible rfl
  simp only [Act.put, List.setIfInBounds_toArray, List.set_cons_zero, List.set_cons_succ, List.getElem_toArray, List.getElem_cons_zero, List.getElem_cons_succ]
  refine wpAnyH_take (i := 9) (v := ?vq8) rfl (by kernel_rfl) (by kernel_rfl) (by kernel_rfl) (fun _ _ _ h => h) (Or.inl ⟨by rfl, ?hyq8⟩) (by assumption) ?restq8
  case hyq8 =>
    intro W hSw
    go_simp
    try with_reducible rfl
  simp only [Act.put, List.setIfInBounds_toArray, List.set_cons_zero, List.set_cons_succ, List.getElem_toArray, List.getElem_cons_zero, List.getElem_cons_succ]
  refine wpAnyH_done (by kernel_rfl) ?_ _
  have hBe := hHeld.2
  clear hHeld
  go_wp2_with fail
  go_ret
  exact ⟨rfl, hBe⟩
end Go.Proofs.Ytejgeefhnpeejaa
