/-
  The walk of the law BlockPads of layer 8: for every string of bytes it returns true, and writes nothing that was there.
-/
import Derived.Test.YtejgeefhnpeejaaBki
import Derived.Test.YtejgeefhnpeejaaBkq
import Derived.Test.YtejgeefhnpeejaaBre
import Derived.Test.YtejgeefhnpeejaaBrf
import Derived.Test.YtejgeefhnpeejaaBrd
import Derived.Deep.RegionHeld3
import Derived.Test.YtejgeefhnpeejaaBrg
import Derived.Test.YtejgeefhnpeejaaBitr
namespace Go.Proofs.Ytejgeefhnpeejaa
open Go.RowKit
set_option linter.unusedVariables false
set_option maxRecDepth 100000

set_option maxHeartbeats 8000000 in
theorem bpads (A : Option Addr) (n c : Nat) (l : List UInt8) (w : World) (hS : Sl w w.heap.size A n l) (hnc : n ≤ c) (hcm : c ≤ maxLen) :
    Calls Try.prog 6 #[.slice A n c] w fun e w' => e = .returned (.bool true) ∧ Below w.heap.size w w' := by
  have hz := zero16x
  have m0 := Lib.hid run_bx0
  have m128 := Lib.hid run_bx128
  have m2 := Lib.hid run_bx2
  have m7 := Lib.hid run_bx7
  have m135 := Lib.hid run_bx135
  have n1 := Lib.hid run_by1
  have heq := fun X => eqx_true (f := X) (g := X) (fun _ _ => rfl)
  have hgd := Try.eqgx
  have hSw := hS
  have hlen := hS.len
  have hn63 : n ≤ 9223372036854775807 := by have h := hcm; simp [maxLen] at h; omega
  clear hS hcm
  have hBw : Below w.heap.size w w := Below.refl _ _
  go_enter Try.func6, Try.ntmps6
  by_cases h500 : n ≤ 500
  · have i500 : ¬ ((n : Int) > 500) := by omega
    go_wp2_with fail
    refine (bawake _).mono ?_
    rintro e x1 ⟨rfl, hq⟩
    have hSx1 := (hSw).below (hq.mono (Below.size (B := w.heap.size) (w := w) (by assumption)))
    have hBx1 := hBw.trans (hq.mono hBw.size)
    clear hq hSw hBw
    by_cases h16 : 16 ≤ n
    · have i16 : (n : Int) ≥ 16 := by omega
      go_wp2_with fail
      refine (bpad_no A n c _ h16).mono ?_
      rintro e x2 ⟨rfl, hq⟩
      have hSx2 := (hSx1).below (hq.mono (Below.size (B := w.heap.size) (w := w) (by assumption)))
      have hBx2 := hBx1.trans (hq.mono hBx1.size)
      clear hq hSx1 hBx1
      obtain ⟨gp, hgp⟩ : ∃ g : Nat, x2.heap.size = g := ⟨_, rfl⟩
      have hlwgp : w.heap.size ≤ gp := by rw [← hgp]; exact hBx2.size
      have hq : Below x2.heap.size x2 (x2.alloc (.cells (arL 16 fun _ => 0).toArray 22)) := (Below.refl _ _).alloc (Nat.le_refl _) _
      have hSx3a := (hSx2).below (hq.mono (Below.size (B := w.heap.size) (w := w) (by assumption)))
      have hpx3a := Ar.new x2 16 (fun _ => 0) 22
      have hBx3a := hBx2.alloc hBx2.size (.cells (arL 16 fun _ => 0).toArray 22)
      rw [hgp] at hpx3a
      clear hq hSx2 hBx2
      go_upto_region 4 with (first | (refine wpList_store_ar rfl _ _ _ rfl _ _ _ (fun _ => 0) rfl rfl hpx3a (size16x _) ?_; intro x3 hpx3 belx3 sizx3 keex3) | fail)
      have hSx3 := (hSx3a).below ((belx3).mono (by omega))
      have hBx3 := hBx3a.trans (belx3.mono hlwgp)
      clear hSx3a hpx3a hBx3a belx3 sizx3 keex3 hgp
      try dsimp only [Act.put]
      go_wp2_with (first | (refine wpList_load_ar0W rfl _ _ rfl _ _ _ rfl hpx3 Try.arr16x (size16x _) ?_) | (refine wpList_build_byW rfl _ _ rfl [] rfl _ (m0.out _) ?_))
      go_ret
      exact ⟨rfl, hBx3⟩
    · have hn16 : n < 16 := by omega
      have i16 : ¬ (n : Int) ≥ 16 := by omega
      have hpn := Lib.hid (show lF (padL l 16) n = 128 by rw [lF_pad l n n hlen hn16 hn16, if_pos rfl])
      have hpz := Lib.hid (show ∀ j, n < j → j < 16 → lF (padL l 16) j = 0 from fun j h1 h2 => by rw [lF_pad l n j hlen hn16 h2, if_neg (by omega), if_neg (by omega)])
      have hpl := Lib.hid (show ∀ j, j < n → lF (padL l 16) j = lF l j from fun j h1 => by rw [lF_pad l n j hlen hn16 (by omega), if_neg (by omega), if_pos h1])
      go_wp2_with fail
      refine (bpad A n c l _ (hSx1.more hBx1.size) hn16).mono ?_
      rintro e x4 ⟨rfl, hq⟩
      have hSx4 := (hSx1).below (hq.mono (Below.size (B := w.heap.size) (w := w) (by assumption)))
      have hBx4 := hBx1.trans (hq.mono hBx1.size)
      clear hq hSx1 hBx1
      obtain ⟨gp, hgp⟩ : ∃ g : Nat, x4.heap.size = g := ⟨_, rfl⟩
      have hlwgp : w.heap.size ≤ gp := by rw [← hgp]; exact hBx4.size
      have hq : Below x4.heap.size x4 (x4.alloc (.cells (arL 16 fun _ => 0).toArray 22)) := (Below.refl _ _).alloc (Nat.le_refl _) _
      have hSx5a := (hSx4).below (hq.mono (Below.size (B := w.heap.size) (w := w) (by assumption)))
      have hpx5a := Ar.new x4 16 (fun _ => 0) 22
      have hBx5a := hBx4.alloc hBx4.size (.cells (arL 16 fun _ => 0).toArray 22)
      rw [hgp] at hpx5a
      clear hq hSx4 hBx4
      go_upto_region 6 with (first | (refine wpList_store_ar rfl _ _ _ rfl _ _ _ (lF (padL l 16)) rfl rfl hpx5a (size16x _) ?_; intro x5 hpx5 belx5 sizx5 keex5) | fail)
      have hSx5 := (hSx5a).below ((belx5).mono (by omega))
      have hBx5 := hBx5a.trans (belx5.mono hlwgp)
      clear hSx5a hpx5a hBx5a belx5 sizx5 keex5 hgp
      try dsimp only [Act.put]
      go_wp2_with (refine wpList_load_ar rfl _ _ rfl _ _ _ rfl hpx5 Try.arr16x (size16x _) ?_)
      refine (bunpad (lF (padL l 16)) _ (fun j _ => lF_lt _ _)).mono ?_
      rintro e x6 hU
      obtain ⟨gU, rfl, hU, hgU, hlU, hq⟩ := unp_pad hU (n := n) hn16 hpn.out hpz.out
      have hVx6 : Sl x6 (x6).heap.size (some ⟨gU, 0, none⟩) n l := Sl.of_ar (hU.ext (fun j hj => hpl.out j hj)) hlen hlU
      clear hU
      have hSx6 := (hSx5).below (hq.mono (Below.size (B := w.heap.size) (w := w) (by assumption)))
      have hpx6 := (hpx5).to (by omega) hq
      have hBx6 := hBx5.trans (hq.mono hBx5.size)
      clear hq hSx5 hpx5 hBx5
      go_upto_region 7 with fail
      have hGx6 := hSx6.more hBx6.size
      clear hSx6
      refine wp_region_held_drew (S := fun W => Ar W gp 16 (lF (padL l 16)) ∧ Sl W (World.heap W).size (A) n l ∧ Sl W (World.heap W).size (some ⟨gU, 0, none⟩) n l ∧ Below w.heap.size w W) (by kernel_rfl) ⟨hpx6.drew, hGx6.drew, hVx6.drew, hBx6.drew⟩ (fun hHeld => ?_)
      clear hpx6 hGx6 hVx6 hBx6 
      generalize World.drew x6 = qd at *
      refine wpAnyH_take (i := 0) (v := ?vq1) rfl (by kernel_rfl) (by kernel_rfl) (by kernel_rfl) (fun _ _ _ h => h) (Or.inl ⟨by rfl, ?hyq1⟩) (by assumption) ?restq1
      case hyq1 =>
        intro W hSw
        go_simp
        try with_reducible rfl
      simp only [Act.put, List.setIfInBounds_toArray, List.set_cons_zero, List.set_cons_succ, List.getElem_toArray, List.getElem_cons_zero]
      refine wpAnyH_take (i := 1) (v := ?vq2) rfl (by kernel_rfl) (by kernel_rfl) (by kernel_rfl) (fun _ _ _ h => h) (Or.inl ⟨by rfl, ?hyq2⟩) (by assumption) ?restq2
      case hyq2 =>
        intro W hSw
        go_simp
        try with_reducible rfl
      simp only [Act.put, List.setIfInBounds_toArray, List.set_cons_zero, List.set_cons_succ, List.getElem_toArray, List.getElem_cons_zero, List.getElem_cons_succ]
      refine wpAnyH_take (i := 2) (v := .agg (arL 16 (lF (padL l 16))).toArray) rfl (by kernel_rfl) (by kernel_rfl) (by kernel_rfl) (fun _ _ _ h => h) (yieldsIf_load_mid (by rfl) _ _ rfl gp (0) rfl (arL 16 (lF (padL l 16))) _ (fun W hSw => hSw.1.range) Try.arr16x rfl (size16x _)) (by assumption) ?_
      simp only [Act.put, List.setIfInBounds_toArray, List.set_cons_zero, List.set_cons_succ, List.getElem_toArray, List.getElem_cons_zero, List.getElem_cons_succ]
      refine wpAnyH_take (i := 3) (v := ?vq3) rfl (by kernel_rfl) (by kernel_rfl) (by kernel_rfl) (fun _ _ _ h => h) (Or.inl ⟨by rfl, ?hyq3⟩) (by assumption) ?restq3
      case hyq3 =>
        intro W hSw
        go_simp
        try with_reducible rfl
      simp only [Act.put, List.setIfInBounds_toArray, List.set_cons_zero, List.set_cons_succ, List.getElem_toArray, List.getElem_cons_zero, List.getElem_cons_succ]
      refine wpAnyH_ready (rs := [4]) (by kernel_rfl) (by simp) ?_
      refine AllReadyH.cons rfl (fun K hK => ?_) AllReadyH.nil
      go_simp
      refine (refpad A n c l _ (hHeld.2.1) hn16).mono ?_
      rintro e q4 ⟨rfl, hq⟩
      go_wp2_with fail
      refine hK.out _ _ ⟨(hHeld.1).to (by omega) hq, ((hHeld.2.1).below hq).more hq.size, ((hHeld.2.2.1).below hq).more hq.size, (hHeld.2.2.2).trans (hq.mono (hHeld.2.2.2).size)⟩ (fun hHeld2 => ?_)
      clear hK K hHeld hq
      have hHeld := hHeld2
      clear hHeld2
      try simp only [Act.put, List.setIfInBounds_toArray, List.set_cons_zero, List.set_cons_succ, List.getElem_toArray, List.getElem_cons_zero, List.getElem_cons_succ]
      refine wpAnyH_take (i := 5) (v := ?vq5) rfl (by kernel_rfl) (by kernel_rfl) (by kernel_rfl) (fun _ _ _ h => h) (Or.inl ⟨by rfl, ?hyq5⟩) (by assumption) ?restq5
      case hyq5 =>
        intro W hSw
        go_simp
        try with_reducible rfl
      simp only [Act.put, List.setIfInBounds_toArray, List.set_cons_zero, List.set_cons_succ, List.getElem_toArray, List.getElem_cons_zero, List.getElem_cons_succ]
      refine wpAnyH_take (i := 6) (v := ?vq6) rfl (by kernel_rfl) (by kernel_rfl) (by kernel_rfl) (fun _ _ _ h => h) (Or.inl ⟨by rfl, ?hyq6⟩) (by assumption) ?restq6
      case hyq6 =>
        intro W hSw
        go_simp
        try with_reducible rfl
      simp only [Act.put, List.setIfInBounds_toArray, List.set_cons_zero, List.set_cons_succ, List.getElem_toArray, List.getElem_cons_zero, List.getElem_cons_succ]
      refine wpAnyH_take (i := 7) (v := ?vq7) rfl (by kernel_rfl) (by kernel_rfl) (by kernel_rfl) (fun _ _ _ h => h) (Or.inl ⟨by rfl, ?hyq7⟩) (by assumption) ?restq7
      case hyq7 =>
        intro W hSw
        go_simp
        try with_reducible rfl
      simp only [Act.put, List.setIfInBounds_toArray, List.set_cons_zero, List.set_cons_succ, List.getElem_toArray, List.getElem_cons_zero, List.getElem_cons_succ]
      refine wpAnyH_take (i := 8) (v := ?vq8) rfl (by kernel_rfl) (by kernel_rfl) (by kernel_rfl) (fun _ _ _ h => h) (Or.inl ⟨by rfl, ?hyq8⟩) (by assumption) ?restq8
      case hyq8 =>
        intro W hSw
        go_simp
        try with_reducible rfl
      simp only [Act.put, List.setIfInBounds_toArray, List.set_cons_zero, List.set_cons_succ, List.getElem_toArray, List.getElem_cons_zero, List.getElem_cons_succ]
      refine wpAnyH_take (i := 9) (v := ?vq9) rfl (by kernel_rfl) (by kernel_rfl) (by kernel_rfl) (fun _ _ _ h => h) (Or.inl ⟨by rfl, ?hyq9⟩) (by assumption) ?restq9
      case hyq9 =>
        intro W hSw
        go_simp
        try with_reducible rfl
      simp only [Act.put, List.setIfInBounds_toArray, List.set_cons_zero, List.set_cons_succ, List.getElem_toArray, List.getElem_cons_zero, List.getElem_cons_succ]
      refine wpAnyH_take (i := 10) (v := ?vq10) rfl (by kernel_rfl) (by kernel_rfl) (by kernel_rfl) (fun _ _ _ h => h) (Or.inl ⟨by rfl, ?hyq10⟩) (by assumption) ?restq10
      case hyq10 =>
        intro W hSw
        go_simp
        try with_reducible rfl
      simp only [Act.put, List.setIfInBounds_toArray, List.set_cons_zero, List.set_cons_succ, List.getElem_toArray, List.getElem_cons_zero, List.getElem_cons_succ]
      refine wpAnyH_take (i := 11) (v := ?vq11) rfl (by kernel_rfl) (by kernel_rfl) (by kernel_rfl) (fun _ _ _ h => h) (Or.inl ⟨by rfl, ?hyq11⟩) (by assumption) ?restq11
      case hyq11 =>
        intro W hSw
        go_simp
        try with_reducible rfl
      simp only [Act.put, List.setIfInBounds_toArray, List.set_cons_zero, List.set_cons_succ, List.getElem_toArray, List.getElem_cons_zero, List.getElem_cons_succ]
      refine wpAnyH_take (i := 12) (v := ?vq12) rfl (by kernel_rfl) (by kernel_rfl) (by kernel_rfl) (fun _ _ _ h => h) (Or.inl ⟨by rfl, ?hyq12⟩) (by assumption) ?restq12
      case hyq12 =>
        intro W hSw
        go_simp
        try with_reducible rfl
      simp only [Act.put, List.setIfInBounds_toArray, List.set_cons_zero, List.set_cons_succ, List.getElem_toArray, List.getElem_cons_zero, List.getElem_cons_succ]
      refine wpAnyH_ready (rs := [13]) (by kernel_rfl) (by simp) ?_
      refine AllReadyH.cons rfl (fun K hK => ?_) AllReadyH.nil
      go_simp
      refine (same (some ⟨gU, 0, none⟩) A n n n c l l _ (hHeld.2.2.1) (hHeld.2.1) (by omega) (by omega)).mono ?_
      rintro e q13 ⟨rfl, hD⟩
      have hq : Below q4.heap.size q4 q13 := hD.below _
      clear hD
      rw [show decide (l = l) = true from decide_eq_true rfl]
      go_wp2_with fail
      refine hK.out _ _ ⟨(hHeld.1).to (by omega) hq, ((hHeld.2.1).below hq).more hq.size, ((hHeld.2.2.1).below hq).more hq.size, (hHeld.2.2.2).trans (hq.mono (hHeld.2.2.2).size)⟩ (fun hHeld2 => ?_)
      clear hK K hHeld hq
      have hHeld := hHeld2
      clear hHeld2
      try simp only [Act.put, List.setIfInBounds_toArray, List.set_cons_zero, List.set_cons_succ, List.getElem_toArray, List.getElem_cons_zero, List.getElem_cons_succ]
      refine wpAnyH_take (i := 14) (v := ?vq14) rfl (by kernel_rfl) (by kernel_rfl) (by kernel_rfl) (fun _ _ _ h => h) (Or.inl ⟨by rfl, ?hyq14⟩) (by assumption) ?restq14
      case hyq14 =>
        intro W hSw
        go_simp
        try with_reducible rfl
      simp only [Act.put, List.setIfInBounds_toArray, List.set_cons_zero, List.set_cons_succ, List.getElem_toArray, List.getElem_cons_zero, List.getElem_cons_succ]
      refine wpAnyH_take (i := 15) (v := ?vq15) rfl (by kernel_rfl) (by kernel_rfl) (by kernel_rfl) (fun _ _ _ h => h) (Or.inl ⟨by rfl, ?hyq15⟩) (by assumption) ?restq15
      case hyq15 =>
        intro W hSw
        go_simp
        try with_reducible rfl
      simp only [Act.put, List.setIfInBounds_toArray, List.set_cons_zero, List.set_cons_succ, List.getElem_toArray, List.getElem_cons_zero, List.getElem_cons_succ]
      refine wpAnyH_done (by kernel_rfl) ?_ _
      have hBe := hHeld.2.2.2
      clear hHeld
      go_wp2_with fail
      go_ret
      exact ⟨rfl, hBe⟩
  · have i500 : (n : Int) > 500 := by omega
    go_wp2_with fail
    refine (bawake _).mono ?_
    rintro e x7 ⟨rfl, hq⟩
    have hSx7 := (hSw).below (hq.mono (Below.size (B := w.heap.size) (w := w) (by assumption)))
    have hBx7 := hBw.trans (hq.mono hBw.size)
    clear hq hSw hBw
    go_wp2_with fail
    refine (bawake _).mono ?_
    rintro e x8 ⟨rfl, hq⟩
    have hSx8 := (hSx7).below (hq.mono (Below.size (B := w.heap.size) (w := w) (by assumption)))
    have hBx8 := hBx7.trans (hq.mono hBx7.size)
    clear hq hSx7 hBx7
    go_wp2_with fail
    go_ret
    exact ⟨rfl, hBx8⟩
end Go.Proofs.Ytejgeefhnpeejaa
