/-
  The walk of the law NonceParses of layer 15: for any 12 bytes it returns true, and writes nothing that was there.
-/
import Derived.Test.YtbjohffpjfglgaaNce
import Derived.Test.YtbjohffpjfglgaaArg
import Derived.Deep.RegionHeld3
namespace Go.Proofs.Ytbjohffpjfglgaa
open Go.RowKit
set_option linter.unusedVariables false
set_option maxRecDepth 100000
set_option linter.unusedSimpArgs false

theorem ph8 (l : List UInt8) (h : 8 ≤ l.length) : phD l = hdD (l.take 8) ∧ phX l = hdX (l.take 8) := by unfold phD phX; rw [if_pos h, if_pos h]; exact ⟨rfl, rfl⟩
theorem hdF_liB {d x : Nat} (F : Nat → Nat) (h : hdF d x = F) : liB 8 F = hdL d x := by
  subst h
  apply lF_ext8
  · rw [liB_len, hdL_len]
  · intro j hj
    rw [hdL_len] at hj
    rw [lF_liB 8 _ (fun i hi => hdF_lt d x i hi) j hj]
    rfl
theorem hdF_tl {h : Nat → Nat} (hb : ∀ j, j < 8 → h j < 256) : ∀ j, j < 8 → hdF (hdD (liB 8 h)) (hdX (liB 8 h)) j = h j := fun j hj => by
  unfold hdF
  rw [hd_of (liB_len 8 h), lF_liB 8 h hb j hj]

theorem four_cases (n : Nat → Nat) : (∀ j, j < 4 → n j = 0) ∨ ¬ n 0 = 0 ∨ (n 0 = 0 ∧ ¬ n 1 = 0) ∨ (n 0 = 0 ∧ n 1 = 0 ∧ ¬ n 2 = 0) ∨ (n 0 = 0 ∧ n 1 = 0 ∧ n 2 = 0 ∧ ¬ n 3 = 0) := by
  by_cases h0 : n 0 = 0 <;> by_cases h1 : n 1 = 0 <;> by_cases h2 : n 2 = 0 <;> by_cases h3 : n 3 = 0
  case pos => left; intro j hj; have e : j = 0 ∨ j = 1 ∨ j = 2 ∨ j = 3 := by omega
              rcases e with rfl | rfl | rfl | rfl <;> assumption
  all_goals simp [h0, h1, h2, h3]
theorem pa_no {n : Nat → Nat} (h : ¬ ∀ j, j < 4 → n j = 0) : paD n = 0 ∧ paX n = 0 ∧ four n = false := by
  have e := four_no h
  unfold paD paX
  rw [e, if_neg (by simp), if_neg (by simp)]
  exact ⟨rfl, rfl, rfl⟩
theorem pa_yes {n : Nat → Nat} (hn : ∀ j, j < 12 → n j < 256) (h : ∀ j, j < 4 → n j = 0) : ∃ q z, paD n = q ∧ paX n = z ∧ four n = true ∧ q < 2 ∧ z < 9223372036854775808 ∧ ∀ j, j < 12 → noF (hdF q z) j = n j := by
  have e := four_yes h
  refine ⟨_, _, rfl, rfl, e, ?_, ?_, ?_⟩
  · unfold paD; rw [e, if_pos rfl]; exact hdD_lt _
  · unfold paX; rw [e, if_pos rfl]; exact hdX_lt _
  · intro j hj
    unfold paD paX tlL
    rw [e, if_pos rfl, if_pos rfl, ← noF_of h j hj]
    exact noF_congr (hdF_tl (fun i hi => hn (4 + i) (by omega))) j hj

set_option maxHeartbeats 4000000 in
theorem nparses (n : Nat → Nat) (w : World) (hn : ∀ j, j < 12 → n j < 256) :
    Calls Try.prog 5 #[.agg (arL 12 n).toArray] w fun e w' => e = .returned (.bool true) ∧ Below w.heap.size w w' := by
  have hz := zero12n
  have hz8 := zero8n
  have Hn := Lib.hid hn
  obtain ⟨kn, hkn⟩ : ∃ k : Array Value, (arL 12 n).toArray = k := ⟨_, rfl⟩
  obtain ⟨w1, hw1⟩ : ∃ V : World, V = w.alloc (.cells (arL 12 n).toArray 27) := ⟨_, rfl⟩
  have hs1 : w1.heap.size = w.heap.size + 1 := by rw [hw1]; simp
  have hBw1 : Below w.heap.size w w1 := by rw [hw1]; exact (Below.refl _ _).alloc (Nat.le_refl _) _
  have hnw1 : Ar w1 w.heap.size 12 n := by rw [hw1]; exact Ar.new w 12 n _
  rw [hkn] at hw1
  rw [hkn]
  clear hkn hn
  go_enter Try.func5, Try.ntmps5
  go_upto_region 1 with fail
  rw [← hw1]
  clear hw1
  try simp only [Nat.add_assoc, Nat.reduceAdd]
  obtain ⟨gn, hgn⟩ : ∃ g : Nat, w.heap.size = g := ⟨_, rfl⟩
  rw [hgn] at hnw1
  try simp only [hgn]
  have hln : w.heap.size ≤ gn := by omega
  clear  hs1
  go_wp2_with fail
  refine (nawake _).mono ?_
  rintro e x1 ⟨rfl, hq⟩
  have hnx1 := (hnw1).to (by omega) hq
  have hBx1 := hBw1.trans (hq.mono hBw1.size)
  clear hq hnw1 hBw1
  rcases four_cases n with h4 | h4 | h4 | h4 | h4
  · obtain ⟨q, z, e1, e2, e3, hq2, hz2, hn2⟩ := pa_yes Hn.out h4
    have hC := Lib.hid (fun V => nparse n V Hn.out)
    rw [e1, e2, e3] at hC
    have HE := Lib.hid hn2
    have HR := Lib.hid (fun V => rright (q : Int) z V (by omega) (by omega))
    have HM := Lib.hid (fun V => rmake q z V hq2 hz2)
    rw [decide_eq_true (by omega)] at HR
    have z0 := h4 0 (by omega)
    have z1 := h4 1 (by omega)
    have z2 := h4 2 (by omega)
    have z3 := h4 3 (by omega)
    have Z0 := Lib.hid z0
    have Z1 := Lib.hid z1
    have Z2 := Lib.hid z2
    have Z3 := Lib.hid z3
    clear e1 e2 e3 hq2 hz2 hn2 h4 z0 z1 z2 z3
    obtain ⟨N, hN⟩ : ∃ N, noF (hdF q z) = N := ⟨_, rfl⟩
    rw [hN] at HE HM
    clear hN
    go_wp2_with (refine wpList_load_ar rfl _ _ rfl _ _ _ rfl hnx1 Try.arr12n (size12n _) ?_)
    refine (hC.out _).mono ?_
    rintro e x2 ⟨rfl, hq⟩
    have hnx2 := (hnx1).to (by omega) hq
    have hBx2 := hBx1.trans (hq.mono hBx1.size)
    clear hq hnx1 hBx1
    have c0 := (hnx2 0 (by omega)).1
    have c1 := (hnx2 1 (by omega)).1
    have c2 := (hnx2 2 (by omega)).1
    have c3 := (hnx2 3 (by omega)).1
    rw [Z0.out] at c0
    rw [Z1.out] at c1
    rw [Z2.out] at c2
    rw [Z3.out] at c3
    go_upto_region 6 with fail
    clear c0 c1 c2 c3
    have heq := eqn12_true HE.out
    have hgd := Try.eqgn12
    refine wp_region_held_drew (S := fun W => Ar W gn 12 (n) ∧ Below w.heap.size w W) (by kernel_rfl) ⟨hnx2.drew, hBx2.drew⟩ (fun hHeld => ?_)
    clear hnx2 hBx2 
    generalize World.drew x2 = qd at *
    refine wpAnyH_take (i := 0) (v := ?vq1) rfl (by kernel_rfl) (by kernel_rfl) (by kernel_rfl) (fun _ _ _ h => h) (Or.inl ⟨by rfl, ?hyq1⟩) (by assumption) ?restq1
    case hyq1 =>
      intro W hSw
      go_simp
      try with_reducible rfl
    simp only [Act.put, List.setIfInBounds_toArray, List.set_cons_zero, List.set_cons_succ, List.getElem_toArray, List.getElem_cons_zero]
    refine wpAnyH_take (i := 1) (v := ?vq2) rfl (by kernel_rfl) (by kernel_rfl) (by kernel_rfl) (fun _ _ _ h => h) (Or.inl ⟨by rfl, ?hyq2⟩) (by assumption) ?restq2
    case hyq2 =>
      intro W hSw
      go_simp
      try with_reducible rfl
    simp only [Act.put, List.setIfInBounds_toArray, List.set_cons_zero, List.set_cons_succ, List.getElem_toArray, List.getElem_cons_zero, List.getElem_cons_succ]
    refine wpAnyH_take (i := 2) (v := ?vq3) rfl (by kernel_rfl) (by kernel_rfl) (by kernel_rfl) (fun _ _ _ h => h) (Or.inl ⟨by rfl, ?hyq3⟩) (by assumption) ?restq3
    case hyq3 =>
      intro W hSw
      go_simp
      try with_reducible rfl
    simp only [Act.put, List.setIfInBounds_toArray, List.set_cons_zero, List.set_cons_succ, List.getElem_toArray, List.getElem_cons_zero, List.getElem_cons_succ]
    refine wpAnyH_take (i := 3) (v := ?vq4) rfl (by kernel_rfl) (by kernel_rfl) (by kernel_rfl) (fun _ _ _ h => h) (Or.inl ⟨by rfl, ?hyq4⟩) (by assumption) ?restq4
    case hyq4 =>
      intro W hSw
      go_simp
      try with_reducible rfl
    simp only [Act.put, List.setIfInBounds_toArray, List.set_cons_zero, List.set_cons_succ, List.getElem_toArray, List.getElem_cons_zero, List.getElem_cons_succ]
    refine wpAnyH_ready (rs := [4]) (by kernel_rfl) (by simp) ?_
    refine AllReadyH.cons rfl (fun K hK => ?_) AllReadyH.nil
    go_simp
    refine (HR.out _).mono ?_
    rintro e q5 ⟨rfl, rfl⟩
    go_wp2_with fail
    refine hK.out _ _ hHeld (fun hHeld2 => ?_)
    clear hK K hHeld
    have hHeld := hHeld2
    clear hHeld2
    try simp only [Act.put, List.setIfInBounds_toArray, List.set_cons_zero, List.set_cons_succ, List.getElem_toArray, List.getElem_cons_zero, List.getElem_cons_succ]
    refine wpAnyH_take (i := 5) (v := ?vq6) rfl (by kernel_rfl) (by kernel_rfl) (by kernel_rfl) (fun _ _ _ h => h) (Or.inl ⟨by rfl, ?hyq6⟩) (by assumption) ?restq6
    case hyq6 =>
      intro W hSw
      go_simp
      try with_reducible rfl
    simp only [Act.put, List.setIfInBounds_toArray, List.set_cons_zero, List.set_cons_succ, List.getElem_toArray, List.getElem_cons_zero, List.getElem_cons_succ]
    refine wpAnyH_take (i := 6) (v := ?vq7) rfl (by kernel_rfl) (by kernel_rfl) (by kernel_rfl) (fun _ _ _ h => h) (Or.inl ⟨by rfl, ?hyq7⟩) (by assumption) ?restq7
    case hyq7 =>
      intro W hSw
      go_simp
      try with_reducible rfl
    simp only [Act.put, List.setIfInBounds_toArray, List.set_cons_zero, List.set_cons_succ, List.getElem_toArray, List.getElem_cons_zero, List.getElem_cons_succ]
    refine wpAnyH_take (i := 7) (v := ?vq8) rfl (by kernel_rfl) (by kernel_rfl) (by kernel_rfl) (fun _ _ _ h => h) (Or.inl ⟨by rfl, ?hyq8⟩) (by assumption) ?restq8
    case hyq8 =>
      intro W hSw
      go_simp
      try with_reducible rfl
    simp only [Act.put, List.setIfInBounds_toArray, List.set_cons_zero, List.set_cons_succ, List.getElem_toArray, List.getElem_cons_zero, List.getElem_cons_succ]
    refine wpAnyH_take (i := 8) (v := ?vq9) rfl (by kernel_rfl) (by kernel_rfl) (by kernel_rfl) (fun _ _ _ h => h) (Or.inl ⟨by rfl, ?hyq9⟩) (by assumption) ?restq9
    case hyq9 =>
      intro W hSw
      go_simp
      try with_reducible rfl
    simp only [Act.put, List.setIfInBounds_toArray, List.set_cons_zero, List.set_cons_succ, List.getElem_toArray, List.getElem_cons_zero, List.getElem_cons_succ]
    refine wpAnyH_take (i := 10) (v := .agg (arL 12 (n)).toArray) rfl (by kernel_rfl) (by kernel_rfl) (by kernel_rfl) (fun _ _ _ h => h) (yieldsIf_load_mid (by rfl) _ _ rfl gn (0) rfl (arL 12 (n)) _ (fun W hSw => hSw.1.range) Try.arr12n rfl (size12n _)) (by assumption) ?_
    simp only [Act.put, List.setIfInBounds_toArray, List.set_cons_zero, List.set_cons_succ, List.getElem_toArray, List.getElem_cons_zero, List.getElem_cons_succ]
    refine wpAnyH_ready (rs := [9]) (by kernel_rfl) (by simp) ?_
    refine AllReadyH.cons rfl (fun K hK => ?_) AllReadyH.nil
    go_simp
    refine (HM.out _).mono ?_
    rintro e q10 ⟨rfl, hq⟩
    go_wp2_with fail
    refine hK.out _ _ ⟨(hHeld.1).to (by omega) hq, (hHeld.2).trans (hq.mono (hHeld.2).size)⟩ (fun hHeld2 => ?_)
    clear hK K hHeld hq
    have hHeld := hHeld2
    clear hHeld2
    try simp only [Act.put, List.setIfInBounds_toArray, List.set_cons_zero, List.set_cons_succ, List.getElem_toArray, List.getElem_cons_zero, List.getElem_cons_succ]
    refine wpAnyH_take (i := 11) (v := ?vq11) rfl (by kernel_rfl) (by kernel_rfl) (by kernel_rfl) (fun _ _ _ h => h) (Or.inl ⟨by rfl, ?hyq11⟩) (by assumption) ?restq11
    case hyq11 =>
      intro W hSw
      go_simp
      try with_reducible rfl
    simp only [Act.put, List.setIfInBounds_toArray, List.set_cons_zero, List.set_cons_succ, List.getElem_toArray, List.getElem_cons_zero, List.getElem_cons_succ]
    refine wpAnyH_take (i := 12) (v := ?vq12) rfl (by kernel_rfl) (by kernel_rfl) (by kernel_rfl) (fun _ _ _ h => h) (Or.inl ⟨by rfl, ?hyq12⟩) (by assumption) ?restq12
    case hyq12 =>
      intro W hSw
      go_simp
      try with_reducible rfl
    simp only [Act.put, List.setIfInBounds_toArray, List.set_cons_zero, List.set_cons_succ, List.getElem_toArray, List.getElem_cons_zero, List.getElem_cons_succ]
    refine wpAnyH_take (i := 13) (v := ?vq13) rfl (by kernel_rfl) (by kernel_rfl) (by kernel_rfl) (fun _ _ _ h => h) (Or.inl ⟨by rfl, ?hyq13⟩) (by assumption) ?restq13
    case hyq13 =>
      intro W hSw
      go_simp
      try with_reducible rfl
    simp only [Act.put, List.setIfInBounds_toArray, List.set_cons_zero, List.set_cons_succ, List.getElem_toArray, List.getElem_cons_zero, List.getElem_cons_succ]
    refine wpAnyH_done (by kernel_rfl) ?_ _
    have hBe := hHeld.2
    clear hHeld
    go_wp2_with fail
    go_ret
    exact ⟨rfl, hBe⟩
  · have hno : ¬ ∀ j, j < 4 → n j = 0 := fun h9 => by have := h9 0 (by omega); omega
    obtain ⟨e1, e2, e3⟩ := pa_no hno
    have hC := Lib.hid (fun V => nparse n V Hn.out)
    rw [e1, e2, e3] at hC
    obtain ⟨y, hy⟩ : ∃ y, n 0 = y := ⟨_, rfl⟩
    have i1 : ((y : Int) != 0) = true := by simp; omega
    have HY := Lib.hid hy
    clear e1 e2 e3 hno h4 hy
    go_wp2_with (refine wpList_load_ar rfl _ _ rfl _ _ _ rfl hnx1 Try.arr12n (size12n _) ?_)
    refine (hC.out _).mono ?_
    rintro e x3 ⟨rfl, hq⟩
    have hnx3 := (hnx1).to (by omega) hq
    have hBx3 := hBx1.trans (hq.mono hBx1.size)
    clear hq hnx1 hBx1
    have c0 := (hnx3 0 (by omega)).1
    rw [HY.out] at c0
    go_wp2_with fail
    go_ret
    exact ⟨rfl, hBx3⟩
  · have hno : ¬ ∀ j, j < 4 → n j = 0 := fun h9 => by have := h9 1 (by omega); omega
    obtain ⟨e1, e2, e3⟩ := pa_no hno
    have hC := Lib.hid (fun V => nparse n V Hn.out)
    rw [e1, e2, e3] at hC
    obtain ⟨y, hy⟩ : ∃ y, n 1 = y := ⟨_, rfl⟩
    have i1 : ((y : Int) != 0) = true := by simp; omega
    have HY := Lib.hid hy
    have Z0 := Lib.hid (show n 0 = 0 by omega)
    clear e1 e2 e3 hno h4 hy
    go_wp2_with (refine wpList_load_ar rfl _ _ rfl _ _ _ rfl hnx1 Try.arr12n (size12n _) ?_)
    refine (hC.out _).mono ?_
    rintro e x4 ⟨rfl, hq⟩
    have hnx4 := (hnx1).to (by omega) hq
    have hBx4 := hBx1.trans (hq.mono hBx1.size)
    clear hq hnx1 hBx1
    have c0 := (hnx4 0 (by omega)).1
    have c1 := (hnx4 1 (by omega)).1
    rw [Z0.out] at c0
    rw [HY.out] at c1
    go_wp2_with fail
    go_ret
    exact ⟨rfl, hBx4⟩
  · have hno : ¬ ∀ j, j < 4 → n j = 0 := fun h9 => by have := h9 2 (by omega); omega
    obtain ⟨e1, e2, e3⟩ := pa_no hno
    have hC := Lib.hid (fun V => nparse n V Hn.out)
    rw [e1, e2, e3] at hC
    obtain ⟨y, hy⟩ : ∃ y, n 2 = y := ⟨_, rfl⟩
    have i1 : ((y : Int) != 0) = true := by simp; omega
    have HY := Lib.hid hy
    have Z0 := Lib.hid (show n 0 = 0 by omega)
    have Z1 := Lib.hid (show n 1 = 0 by omega)
    clear e1 e2 e3 hno h4 hy
    go_wp2_with (refine wpList_load_ar rfl _ _ rfl _ _ _ rfl hnx1 Try.arr12n (size12n _) ?_)
    refine (hC.out _).mono ?_
    rintro e x5 ⟨rfl, hq⟩
    have hnx5 := (hnx1).to (by omega) hq
    have hBx5 := hBx1.trans (hq.mono hBx1.size)
    clear hq hnx1 hBx1
    have c0 := (hnx5 0 (by omega)).1
    have c1 := (hnx5 1 (by omega)).1
    have c2 := (hnx5 2 (by omega)).1
    rw [Z0.out] at c0
    rw [Z1.out] at c1
    rw [HY.out] at c2
    go_wp2_with fail
    go_ret
    exact ⟨rfl, hBx5⟩
  · have hno : ¬ ∀ j, j < 4 → n j = 0 := fun h9 => by have := h9 3 (by omega); omega
    obtain ⟨e1, e2, e3⟩ := pa_no hno
    have hC := Lib.hid (fun V => nparse n V Hn.out)
    rw [e1, e2, e3] at hC
    obtain ⟨y, hy⟩ : ∃ y, n 3 = y := ⟨_, rfl⟩
    have i1 : ((y : Int) != 0) = true := by simp; omega
    have HY := Lib.hid hy
    have Z0 := Lib.hid (show n 0 = 0 by omega)
    have Z1 := Lib.hid (show n 1 = 0 by omega)
    have Z2 := Lib.hid (show n 2 = 0 by omega)
    clear e1 e2 e3 hno h4 hy
    go_wp2_with (refine wpList_load_ar rfl _ _ rfl _ _ _ rfl hnx1 Try.arr12n (size12n _) ?_)
    refine (hC.out _).mono ?_
    rintro e x6 ⟨rfl, hq⟩
    have hnx6 := (hnx1).to (by omega) hq
    have hBx6 := hBx1.trans (hq.mono hBx1.size)
    clear hq hnx1 hBx1
    have c0 := (hnx6 0 (by omega)).1
    have c1 := (hnx6 1 (by omega)).1
    have c2 := (hnx6 2 (by omega)).1
    have c3 := (hnx6 3 (by omega)).1
    rw [Z0.out] at c0
    rw [Z1.out] at c1
    rw [Z2.out] at c2
    rw [HY.out] at c3
    go_wp2_with fail
    go_ret
    exact ⟨rfl, hBx6⟩
end Go.Proofs.Ytbjohffpjfglgaa
