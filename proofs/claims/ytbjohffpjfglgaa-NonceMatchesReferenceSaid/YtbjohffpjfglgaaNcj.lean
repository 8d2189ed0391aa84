/-
  The walk of the law NonceMatchesReference of layer 15: for every number as a direction and every number it returns true, and writes nothing that was there.
-/
import Derived.Test.YtbjohffpjfglgaaNce
import Derived.Test.YtbjohffpjfglgaaArg
import Derived.Deep.RegionHeld3
namespace Go.Proofs.Ytbjohffpjfglgaa
open Go.RowKit
set_option linter.unusedVariables false
set_option maxRecDepth 100000
set_option linter.unusedSimpArgs false

theorem ph8 (l : List UInt8) (h : 8 ≤ l.length) : phD l = hdD (l.take 8) ∧ phX l = hdX (l.take 8) := by unfold phD phX; rw [if_pos h, if_pos h]; exact ⟨rfl, rfl⟩
theorem hdF_liB {d x : Nat} (F : Nat → Nat) (h : hdF d x = F) : liB 8 F = hdL d x := by
  subst h
  apply lF_ext8
  · rw [liB_len, hdL_len]
  · intro j hj
    rw [hdL_len] at hj
    rw [lF_liB 8 _ (fun i hi => hdF_lt d x i hi) j hj]
    rfl
theorem hdF_tl {h : Nat → Nat} (hb : ∀ j, j < 8 → h j < 256) : ∀ j, j < 8 → hdF (hdD (liB 8 h)) (hdX (liB 8 h)) j = h j := fun j hj => by
  unfold hdF
  rw [hd_of (liB_len 8 h), lF_liB 8 h hb j hj]

theorem all8 {m x : Nat} (hm : m < 2) (hx : x < 9223372036854775808) (H : Nat → Nat) (hH : hdF m x = H) : phD (liB 8 H) = m ∧ phX (liB 8 H) = x ∧ decide (8 ≤ (liB 8 H).length) = true := by
  have e := ph_eight H
  rw [e.1, e.2.1, e.2.2, hdF_liB H hH]
  exact ⟨hdD_hd hm hx, hdX_hd hm hx, rfl⟩
theorem all12 {m x : Nat} (hm : m < 2) (hx : x < 9223372036854775808) (H : Nat → Nat) (hH : hdF m x = H) : paD (noF H) = m ∧ paX (noF H) = x ∧ four (noF H) = true := by
  have e : four (noF H) = true := four_yes (noF_four H)
  unfold paD paX tlL
  rw [e, if_pos rfl, if_pos rfl]
  simp only [noF_tail]
  have e2 : liB 8 (fun j => H j) = hdL m x := hdF_liB H hH
  rw [e2]
  exact ⟨hdD_hd hm hx, hdX_hd hm hx, trivial⟩

set_option maxHeartbeats 4000000 in
theorem nmatches (d : Int) (x : Nat) (w : World) (hd : -9223372036854775808 ≤ d ∧ d ≤ 9223372036854775807) (hx : x < 18446744073709551616) :
    Calls Try.prog 3 #[.int .i64 d, .int .u64 (x : Int)] w fun e w' => e = .returned (.bool true) ∧ Below w.heap.size w w' := by
  have hz := zero12n
  have hz8 := zero8n
  have hBw : Below w.heap.size w w := Below.refl _ _
  go_enter Try.func3, Try.ntmps3
  go_wp2_with fail
  refine (nawake _).mono ?_
  rintro e x1 ⟨rfl, hq⟩
  have hBx1 := hBw.trans (hq.mono hBw.size)
  clear hq  hBw
  have hC1 := Lib.hid (fun V => nhead d x V hd hx)
  have hC2 := Lib.hid (fun V => nmake d x V hd hx)
  have hC3 := Lib.hid (fun V => rright d x V hd hx)
  by_cases hok : (d = 0 ∨ d = 1) ∧ x < 9223372036854775808
  · have hk := ok_yes hok.1 hok.2
    obtain ⟨m, rfl⟩ : ∃ m : Nat, d = (m : Int) := ⟨d.toNat, by omega⟩
    have hm : m < 2 := by omega
    have hx2 := hok.2
    obtain ⟨H, hH⟩ : ∃ H, hdF m x = H := ⟨_, rfl⟩
    have e8 : hdZ (m : Int) x = H := by unfold hdZ; rw [hk, if_pos rfl, Int.toNat_natCast, hH]
    have e12 : noZ (m : Int) x = noF H := by rw [noZ_eq, e8]
    rw [e8, hk] at hC1
    rw [e12, hk] at hC2
    rw [decide_eq_true hok] at hC3
    have hC4 := Lib.hid (fun V => rhead m x V hm hx2)
    rw [hH] at hC4
    have hC5 := Lib.hid (fun V => rmake m x V hm hx2)
    rw [hH] at hC5
    have HB := Lib.hid (show ∀ j, j < 8 → H j < 256 by rw [← hH]; exact hdF_lt m x)
    have hC6 := Lib.hid (fun V => nwhole H V HB.out)
    obtain ⟨p1, p2, p3⟩ := all8 hm hx2 H hH
    obtain ⟨p4, p5, p6⟩ := all12 hm hx2 H hH
    have hC7 := Lib.hid (fun A V hV => nphead A 8 8 (liB 8 H) V hV (by omega) (by simp [maxLen]))
    rw [p1, p2, p3] at hC7
    have hC8 := Lib.hid (fun V => nparse (noF H) V (noF_lt HB.out))
    rw [p4, p5, p6] at hC8
    obtain ⟨N, hN⟩ : ∃ N, noF H = N := ⟨_, rfl⟩
    rw [hN] at hC2 hC5 hC6 hC8
    clear hd hx hok hk hm hx2 hH e8 e12 p1 p2 p3 p4 p5 p6 hN
    go_wp2_with fail
    refine (hC1.out _).mono ?_
    rintro e x2 ⟨rfl, hq⟩
    have hBx2 := hBx1.trans (hq.mono hBx1.size)
    clear hq  hBx1
    obtain ⟨gh, hgh⟩ : ∃ g : Nat, x2.heap.size = g := ⟨_, rfl⟩
    have hlwgh : w.heap.size ≤ gh := by rw [← hgh]; exact hBx2.size
    have hq : Below x2.heap.size x2 (x2.alloc (.cells (arL 8 fun _ => 0).toArray 24)) := (Below.refl _ _).alloc (Nat.le_refl _) _
    have hhx3a := Ar.new x2 8 (fun _ => 0) 24
    have hBx3a := hBx2.alloc hBx2.size (.cells (arL 8 fun _ => 0).toArray 24)
    rw [hgh] at hhx3a
    clear hq  hBx2
    go_upto_region 4 with (first | (refine wpList_store_ar rfl _ _ _ rfl _ _ _ (H) rfl rfl hhx3a (size8n _) ?_; intro x3 hhx3 belx3 sizx3 keex3) | fail)
    have hBx3 := hBx3a.trans (belx3.mono hlwgh)
    clear  hhx3a hBx3a belx3 sizx3 keex3 hgh
    try dsimp only [Act.put]
    go_wp2_with fail
    refine (hC2.out _).mono ?_
    rintro e x4 ⟨rfl, hq⟩
    have hhx4 := (hhx3).to (by omega) hq
    have hBx4 := hBx3.trans (hq.mono hBx3.size)
    clear hq hhx3 hBx3
    obtain ⟨gn, hgn⟩ : ∃ g : Nat, x4.heap.size = g := ⟨_, rfl⟩
    have hlghgn : gh < gn := by rw [← hgn]; exact hhx4.lt (by omega)
    have hlwgn : w.heap.size ≤ gn := by rw [← hgn]; exact hBx4.size
    have hq : Below x4.heap.size x4 (x4.alloc (.cells (arL 12 fun _ => 0).toArray 27)) := (Below.refl _ _).alloc (Nat.le_refl _) _
    have hhx5a := (hhx4).to (by omega) hq
    have hnx5a := Ar.new x4 12 (fun _ => 0) 27
    have hBx5a := hBx4.alloc hBx4.size (.cells (arL 12 fun _ => 0).toArray 27)
    rw [hgn] at hnx5a
    clear hq hhx4 hBx4
    go_upto_region 5 with (first | (refine wpList_store_ar rfl _ _ _ rfl _ _ _ (N) rfl rfl hnx5a (size12n _) ?_; intro x5 hnx5 belx5 sizx5 keex5) | fail)
    have hhx5 := (hhx5a).keep hlghgn belx5
    have hBx5 := hBx5a.trans (belx5.mono hlwgn)
    clear hhx5a hnx5a hBx5a belx5 sizx5 keex5 hgn
    try dsimp only [Act.put]
    go_wp2_with fail
    refine (hC3.out _).mono ?_
    rintro e x6 ⟨rfl, hw9⟩
    have hq : Below x5.heap.size x5 x6 := by rw [hw9]; exact Below.refl _ _
    clear hw9
    have hhx6 := (hhx5).to (by omega) hq
    have hnx6 := (hnx5).to (by omega) hq
    have hBx6 := hBx5.trans (hq.mono hBx5.size)
    clear hq hhx5 hnx5 hBx5
    go_upto_region 7 with fail
    have hsl := slice8a gh
    go_wp2_with fail
    refine (hC7.out _ _ (Sl.of_fun HB.out (fun j hj => by rw [Nat.zero_add]; exact (hhx6 j hj).1) (hhx6.lt (by omega)))).mono ?_
    rintro e x7 ⟨rfl, hq⟩
    have hhx7 := (hhx6).to (by omega) hq
    have hnx7 := (hnx6).to (by omega) hq
    have hBx7 := hBx6.trans (hq.mono hBx6.size)
    clear hq hhx6 hnx6 hBx6
    clear hsl
    go_wp2_with (refine wpList_load_ar rfl _ _ rfl _ _ _ rfl hnx7 Try.arr12n (size12n _) ?_)
    refine (hC8.out _).mono ?_
    rintro e x8 ⟨rfl, hq⟩
    have hhx8 := (hhx7).to (by omega) hq
    have hnx8 := (hnx7).to (by omega) hq
    have hBx8 := hBx7.trans (hq.mono hBx7.size)
    clear hq hhx7 hnx7 hBx7
    go_upto_region 9 with fail
    have heq := eqn8_true (f := H) (g := H) (fun _ _ => rfl)
    have heq2 := eqn12_true (f := N) (g := N) (fun _ _ => rfl)
    have hgd := Try.eqgn8
    have hgd2 := Try.eqgn12
    refine wp_region_held_drew (S := fun W => Ar W gh 8 (H) ∧ Ar W gn 12 (N) ∧ Below w.heap.size w W) (by kernel_rfl) ⟨hhx8.drew, hnx8.drew, hBx8.drew⟩ (fun hHeld => ?_)
    clear hhx8 hnx8 hBx8 
    generalize World.drew x8 = qd at *
    refine wpAnyH_take (i := 0) (v := ?vq1) rfl (by kernel_rfl) (by kernel_rfl) (by kernel_rfl) (fun _ _ _ h => h) (Or.inl ⟨by rfl, ?hyq1⟩) (by assumption) ?restq1
    case hyq1 =>
      intro W hSw
      go_simp
      try with_reducible rfl
    simp only [Act.put, List.setIfInBounds_toArray, List.set_cons_zero, List.set_cons_succ, List.getElem_toArray, List.getElem_cons_zero]
    refine wpAnyH_take (i := 1) (v := ?vq2) rfl (by kernel_rfl) (by kernel_rfl) (by kernel_rfl) (fun _ _ _ h => h) (Or.inl ⟨by rfl, ?hyq2⟩) (by assumption) ?restq2
    case hyq2 =>
      intro W hSw
      go_simp
      try with_reducible rfl
    simp only [Act.put, List.setIfInBounds_toArray, List.set_cons_zero, List.set_cons_succ, List.getElem_toArray, List.getElem_cons_zero, List.getElem_cons_succ]
    refine wpAnyH_take (i := 2) (v := ?vq3) rfl (by kernel_rfl) (by kernel_rfl) (by kernel_rfl) (fun _ _ _ h => h) (Or.inl ⟨by rfl, ?hyq3⟩) (by assumption) ?restq3
    case hyq3 =>
      intro W hSw
      go_simp
      try with_reducible rfl
    simp only [Act.put, List.setIfInBounds_toArray, List.set_cons_zero, List.set_cons_succ, List.getElem_toArray, List.getElem_cons_zero, List.getElem_cons_succ]
    refine wpAnyH_take (i := 3) (v := ?vq4) rfl (by kernel_rfl) (by kernel_rfl) (by kernel_rfl) (fun _ _ _ h => h) (Or.inl ⟨by rfl, ?hyq4⟩) (by assumption) ?restq4
    case hyq4 =>
      intro W hSw
      go_simp
      try with_reducible rfl
    simp only [Act.put, List.setIfInBounds_toArray, List.set_cons_zero, List.set_cons_succ, List.getElem_toArray, List.getElem_cons_zero, List.getElem_cons_succ]
    refine wpAnyH_take (i := 4) (v := ?vq5) rfl (by kernel_rfl) (by kernel_rfl) (by kernel_rfl) (fun _ _ _ h => h) (Or.inl ⟨by rfl, ?hyq5⟩) (by assumption) ?restq5
    case hyq5 =>
      intro W hSw
      go_simp
      try with_reducible rfl
    simp only [Act.put, List.setIfInBounds_toArray, List.set_cons_zero, List.set_cons_succ, List.getElem_toArray, List.getElem_cons_zero, List.getElem_cons_succ]
    refine wpAnyH_take (i := 5) (v := .agg (arL 8 (H)).toArray) rfl (by kernel_rfl) (by kernel_rfl) (by kernel_rfl) (fun _ _ _ h => h) (yieldsIf_load_mid (by rfl) _ _ rfl gh (0) rfl (arL 8 (H)) _ (fun W hSw => hSw.1.range) Try.arr8n rfl (size8n _)) (by assumption) ?_
    simp only [Act.put, List.setIfInBounds_toArray, List.set_cons_zero, List.set_cons_succ, List.getElem_toArray, List.getElem_cons_zero, List.getElem_cons_succ]
    refine wpAnyH_take (i := 6) (v := ?vq6) rfl (by kernel_rfl) (by kernel_rfl) (by kernel_rfl) (fun _ _ _ h => h) (Or.inl ⟨by rfl, ?hyq6⟩) (by assumption) ?restq6
    case hyq6 =>
      intro W hSw
      go_simp
      try with_reducible rfl
    simp only [Act.put, List.setIfInBounds_toArray, List.set_cons_zero, List.set_cons_succ, List.getElem_toArray, List.getElem_cons_zero, List.getElem_cons_succ]
    refine wpAnyH_take (i := 7) (v := ?vq7) rfl (by kernel_rfl) (by kernel_rfl) (by kernel_rfl) (fun _ _ _ h => h) (Or.inl ⟨by rfl, ?hyq7⟩) (by assumption) ?restq7
    case hyq7 =>
      intro W hSw
      go_simp
      try with_reducible rfl
    simp only [Act.put, List.setIfInBounds_toArray, List.set_cons_zero, List.set_cons_succ, List.getElem_toArray, List.getElem_cons_zero, List.getElem_cons_succ]
    refine wpAnyH_ready (rs := [8]) (by kernel_rfl) (by simp) ?_
    refine AllReadyH.cons rfl (fun K hK => ?_) AllReadyH.nil
    go_simp
    refine (hC4.out _).mono ?_
    rintro e q8 ⟨rfl, hq⟩
    go_wp2_with fail
    refine hK.out _ _ ⟨(hHeld.1).to (by omega) hq, (hHeld.2.1).to (by omega) hq, (hHeld.2.2).trans (hq.mono (hHeld.2.2).size)⟩ (fun hHeld2 => ?_)
    clear hK K hHeld hq
    have hHeld := hHeld2
    clear hHeld2
    try simp only [Act.put, List.setIfInBounds_toArray, List.set_cons_zero, List.set_cons_succ, List.getElem_toArray, List.getElem_cons_zero, List.getElem_cons_succ]
    refine wpAnyH_take (i := 9) (v := ?vq9) rfl (by kernel_rfl) (by kernel_rfl) (by kernel_rfl) (fun _ _ _ h => h) (Or.inl ⟨by rfl, ?hyq9⟩) (by assumption) ?restq9
    case hyq9 =>
      intro W hSw
      go_simp
      try with_reducible rfl
    simp only [Act.put, List.setIfInBounds_toArray, List.set_cons_zero, List.set_cons_succ, List.getElem_toArray, List.getElem_cons_zero, List.getElem_cons_succ]
    refine wpAnyH_take (i := 10) (v := ?vq10) rfl (by kernel_rfl) (by kernel_rfl) (by kernel_rfl) (fun _ _ _ h => h) (Or.inl ⟨by rfl, ?hyq10⟩) (by assumption) ?restq10
    case hyq10 =>
      intro W hSw
      go_simp
      try with_reducible rfl
    simp only [Act.put, List.setIfInBounds_toArray, List.set_cons_zero, List.set_cons_succ, List.getElem_toArray, List.getElem_cons_zero, List.getElem_cons_succ]
    refine wpAnyH_take (i := 11) (v := ?vq11) rfl (by kernel_rfl) (by kernel_rfl) (by kernel_rfl) (fun _ _ _ h => h) (Or.inl ⟨by rfl, ?hyq11⟩) (by assumption) ?restq11
    case hyq11 =>
      intro W hSw
      go_simp
      try with_reducible rfl
    simp only [Act.put, List.setIfInBounds_toArray, List.set_cons_zero, List.set_cons_succ, List.getElem_toArray, List.getElem_cons_zero, List.getElem_cons_succ]
    refine wpAnyH_take (i := 12) (v := .agg (arL 12 (N)).toArray) rfl (by kernel_rfl) (by kernel_rfl) (by kernel_rfl) (fun _ _ _ h => h) (yieldsIf_load_mid (by rfl) _ _ rfl gn (0) rfl (arL 12 (N)) _ (fun W hSw => hSw.2.1.range) Try.arr12n rfl (size12n _)) (by assumption) ?_
    simp only [Act.put, List.setIfInBounds_toArray, List.set_cons_zero, List.set_cons_succ, List.getElem_toArray, List.getElem_cons_zero, List.getElem_cons_succ]
    refine wpAnyH_take (i := 13) (v := ?vq12) rfl (by kernel_rfl) (by kernel_rfl) (by kernel_rfl) (fun _ _ _ h => h) (Or.inl ⟨by rfl, ?hyq12⟩) (by assumption) ?restq12
    case hyq12 =>
      intro W hSw
      go_simp
      try with_reducible rfl
    simp only [Act.put, List.setIfInBounds_toArray, List.set_cons_zero, List.set_cons_succ, List.getElem_toArray, List.getElem_cons_zero, List.getElem_cons_succ]
    refine wpAnyH_take (i := 14) (v := ?vq13) rfl (by kernel_rfl) (by kernel_rfl) (by kernel_rfl) (fun _ _ _ h => h) (Or.inl ⟨by rfl, ?hyq13⟩) (by assumption) ?restq13
    case hyq13 =>
      intro W hSw
      go_simp
      try with_reducible rfl
    simp only [Act.put, List.setIfInBounds_toArray, List.set_cons_zero, List.set_cons_succ, List.getElem_toArray, List.getElem_cons_zero, List.getElem_cons_succ]
    refine wpAnyH_ready (rs := [15]) (by kernel_rfl) (by simp) ?_
    refine AllReadyH.cons rfl (fun K hK => ?_) AllReadyH.nil
    go_simp
    refine (hC5.out _).mono ?_
    rintro e q14 ⟨rfl, hq⟩
    go_wp2_with fail
    refine hK.out _ _ ⟨(hHeld.1).to (by omega) hq, (hHeld.2.1).to (by omega) hq, (hHeld.2.2).trans (hq.mono (hHeld.2.2).size)⟩ (fun hHeld2 => ?_)
    clear hK K hHeld hq
    have hHeld := hHeld2
    clear hHeld2
    try simp only [Act.put, List.setIfInBounds_toArray, List.set_cons_zero, List.set_cons_succ, List.getElem_toArray, List.getElem_cons_zero, List.getElem_cons_succ]
    refine wpAnyH_take (i := 16) (v := ?vq15) rfl (by kernel_rfl) (by kernel_rfl) (by kernel_rfl) (fun _ _ _ h => h) (Or.inl ⟨by rfl, ?hyq15⟩) (by assumption) ?restq15
    case hyq15 =>
      intro W hSw
      go_simp
      try with_reducible rfl
    simp only [Act.put, List.setIfInBounds_toArray, List.set_cons_zero, List.set_cons_succ, List.getElem_toArray, List.getElem_cons_zero, List.getElem_cons_succ]
    refine wpAnyH_take (i := 17) (v := ?vq16) rfl (by kernel_rfl) (by kernel_rfl) (by kernel_rfl) (fun _ _ _ h => h) (Or.inl ⟨by rfl, ?hyq16⟩) (by assumption) ?restq16
    case hyq16 =>
      intro W hSw
      go_simp
      try with_reducible rfl
    simp only [Act.put, List.setIfInBounds_toArray, List.set_cons_zero, List.set_cons_succ, List.getElem_toArray, List.getElem_cons_zero, List.getElem_cons_succ]
    refine wpAnyH_take (i := 18) (v := ?vq17) rfl (by kernel_rfl) (by kernel_rfl) (by kernel_rfl) (fun _ _ _ h => h) (Or.inl ⟨by rfl, ?hyq17⟩) (by assumption) ?restq17
    case hyq17 =>
      intro W hSw
      go_simp
      try with_reducible rfl
    simp only [Act.put, List.setIfInBounds_toArray, List.set_cons_zero, List.set_cons_succ, List.getElem_toArray, List.getElem_cons_zero, List.getElem_cons_succ]
    refine wpAnyH_take (i := 19) (v := .agg (arL 8 (H)).toArray) rfl (by kernel_rfl) (by kernel_rfl) (by kernel_rfl) (fun _ _ _ h => h) (yieldsIf_load_mid (by rfl) _ _ rfl gh (0) rfl (arL 8 (H)) _ (fun W hSw => hSw.1.range) Try.arr8n rfl (size8n _)) (by assumption) ?_
    simp only [Act.put, List.setIfInBounds_toArray, List.set_cons_zero, List.set_cons_succ, List.getElem_toArray, List.getElem_cons_zero, List.getElem_cons_succ]
    refine wpAnyH_take (i := 21) (v := .agg (arL 12 (N)).toArray) rfl (by kernel_rfl) (by kernel_rfl) (by kernel_rfl) (fun _ _ _ h => h) (yieldsIf_load_mid (by rfl) _ _ rfl gn (0) rfl (arL 12 (N)) _ (fun W hSw => hSw.2.1.range) Try.arr12n rfl (size12n _)) (by assumption) ?_
    simp only [Act.put, List.setIfInBounds_toArray, List.set_cons_zero, List.set_cons_succ, List.getElem_toArray, List.getElem_cons_zero, List.getElem_cons_succ]
    refine wpAnyH_ready (rs := [20]) (by kernel_rfl) (by simp) ?_
    refine AllReadyH.cons rfl (fun K hK => ?_) AllReadyH.nil
    go_simp
    refine (hC6.out _).mono ?_
    rintro e q18 ⟨rfl, hq⟩
    go_wp2_with fail
    refine hK.out _ _ ⟨(hHeld.1).to (by omega) hq, (hHeld.2.1).to (by omega) hq, (hHeld.2.2).trans (hq.mono (hHeld.2.2).size)⟩ (fun hHeld2 => ?_)
    clear hK K hHeld hq
    have hHeld := hHeld2
    clear hHeld2
    try simp only [Act.put, List.setIfInBounds_toArray, List.set_cons_zero, List.set_cons_succ, List.getElem_toArray, List.getElem_cons_zero, List.getElem_cons_succ]
    refine wpAnyH_take (i := 22) (v := ?vq19) rfl (by kernel_rfl) (by kernel_rfl) (by kernel_rfl) (fun _ _ _ h => h) (Or.inl ⟨by rfl, ?hyq19⟩) (by assumption) ?restq19
    case hyq19 =>
      intro W hSw
      go_simp
      try with_reducible rfl
    simp only [Act.put, List.setIfInBounds_toArray, List.set_cons_zero, List.set_cons_succ, List.getElem_toArray, List.getElem_cons_zero, List.getElem_cons_succ]
    refine wpAnyH_take (i := 23) (v := ?vq20) rfl (by kernel_rfl) (by kernel_rfl) (by kernel_rfl) (fun _ _ _ h => h) (Or.inl ⟨by rfl, ?hyq20⟩) (by assumption) ?restq20
    case hyq20 =>
      intro W hSw
      go_simp
      try with_reducible rfl
    simp only [Act.put, List.setIfInBounds_toArray, List.set_cons_zero, List.set_cons_succ, List.getElem_toArray, List.getElem_cons_zero, List.getElem_cons_succ]
    refine wpAnyH_take (i := 24) (v := ?vq21) rfl (by kernel_rfl) (by kernel_rfl) (by kernel_rfl) (fun _ _ _ h => h) (Or.inl ⟨by rfl, ?hyq21⟩) (by assumption) ?restq21
    case hyq21 =>
      intro W hSw
      go_simp
      try with_reducible rfl
    simp only [Act.put, List.setIfInBounds_toArray, List.set_cons_zero, List.set_cons_succ, List.getElem_toArray, List.getElem_cons_zero, List.getElem_cons_succ]
    refine wpAnyH_take (i := 25) (v := ?vq22) rfl (by kernel_rfl) (by kernel_rfl) (by kernel_rfl) (fun _ _ _ h => h) (Or.inl ⟨by rfl, ?hyq22⟩) (by assumption) ?restq22
    case hyq22 =>
      intro W hSw
      go_simp
      try with_reducible rfl
    simp only [Act.put, List.setIfInBounds_toArray, List.set_cons_zero, List.set_cons_succ, List.getElem_toArray, List.getElem_cons_zero, List.getElem_cons_succ]
    refine wpAnyH_take (i := 26) (v := ?vq23) rfl (by kernel_rfl) (by kernel_rfl) (by kernel_rfl) (fun _ _ _ h => h) (Or.inl ⟨by rfl, ?hyq23⟩) (by assumption) ?restq23
    case hyq23 =>
      intro W hSw
      go_simp
      try with_reducible rfl
    simp only [Act.put, List.setIfInBounds_toArray, List.set_cons_zero, List.set_cons_succ, List.getElem_toArray, List.getElem_cons_zero, List.getElem_cons_succ]
    refine wpAnyH_take (i := 27) (v := ?vq24) rfl (by kernel_rfl) (by kernel_rfl) (by kernel_rfl) (fun _ _ _ h => h) (Or.inl ⟨by rfl, ?hyq24⟩) (by assumption) ?restq24
    case hyq24 =>
      intro W hSw
      go_simp
      try with_reducible rfl
    simp only [Act.put, List.setIfInBounds_toArray, List.set_cons_zero, List.set_cons_succ, List.getElem_toArray, List.getElem_cons_zero, List.getElem_cons_succ]
    refine wpAnyH_take (i := 28) (v := ?vq25) rfl (by kernel_rfl) (by kernel_rfl) (by kernel_rfl) (fun _ _ _ h => h) (Or.inl ⟨by rfl, ?hyq25⟩) (by assumption) ?restq25
    case hyq25 =>
      intro W hSw
      go_simp
      try with_reducible rfl
    simp only [Act.put, List.setIfInBounds_toArray, List.set_cons_zero, List.set_cons_succ, List.getElem_toArray, List.getElem_cons_zero, List.getElem_cons_succ]
    refine wpAnyH_take (i := 29) (v := ?vq26) rfl (by kernel_rfl) (by kernel_rfl) (by kernel_rfl) (fun _ _ _ h => h) (Or.inl ⟨by rfl, ?hyq26⟩) (by assumption) ?restq26
    case hyq26 =>
      intro W hSw
      go_simp
      try with_reducible rfl
    simp only [Act.put, List.setIfInBounds_toArray, List.set_cons_zero, List.set_cons_succ, List.getElem_toArray, List.getElem_cons_zero, List.getElem_cons_succ]
    refine wpAnyH_take (i := 30) (v := ?vq27) rfl (by kernel_rfl) (by kernel_rfl) (by kernel_rfl) (fun _ _ _ h => h) (Or.inl ⟨by rfl, ?hyq27⟩) (by assumption) ?restq27
    case hyq27 =>
      intro W hSw
      go_simp
      try with_reducible rfl
    simp only [Act.put, List.setIfInBounds_toArray, List.set_cons_zero, List.set_cons_succ, List.getElem_toArray, List.getElem_cons_zero, List.getElem_cons_succ]
    refine wpAnyH_take (i := 31) (v := ?vq28) rfl (by kernel_rfl) (by kernel_rfl) (by kernel_rfl) (fun _ _ _ h => h) (Or.inl ⟨by rfl, ?hyq28⟩) (by assumption) ?restq28
    case hyq28 =>
      intro W hSw
      go_simp
      try with_reducible rfl
    simp only [Act.put, List.setIfInBounds_toArray, List.set_cons_zero, List.set_cons_succ, List.getElem_toArray, List.getElem_cons_zero, List.getElem_cons_succ]
    refine wpAnyH_take (i := 32) (v := ?vq29) rfl (by kernel_rfl) (by kernel_rfl) (by kernel_rfl) (fun _ _ _ h => h) (Or.inl ⟨by rfl, ?hyq29⟩) (by assumption) ?restq29
    case hyq29 =>
      intro W hSw
      go_simp
      try with_reducible rfl
    simp only [Act.put, List.setIfInBounds_toArray, List.set_cons_zero, List.set_cons_succ, List.getElem_toArray, List.getElem_cons_zero, List.getElem_cons_succ]
    refine wpAnyH_take (i := 33) (v := ?vq30) rfl (by kernel_rfl) (by kernel_rfl) (by kernel_rfl) (fun _ _ _ h => h) (Or.inl ⟨by rfl, ?hyq30⟩) (by assumption) ?restq30
    case hyq30 =>
      intro W hSw
      go_simp
      try with_reducible rfl
    simp only [Act.put, List.setIfInBounds_toArray, List.set_cons_zero, List.set_cons_succ, List.getElem_toArray, List.getElem_cons_zero, List.getElem_cons_succ]
    refine wpAnyH_take (i := 34) (v := ?vq31) rfl (by kernel_rfl) (by kernel_rfl) (by kernel_rfl) (fun _ _ _ h => h) (Or.inl ⟨by rfl, ?hyq31⟩) (by assumption) ?restq31
    case hyq31 =>
      intro W hSw
      go_simp
      try with_reducible rfl
    simp only [Act.put, List.setIfInBounds_toArray, List.set_cons_zero, List.set_cons_succ, List.getElem_toArray, List.getElem_cons_zero, List.getElem_cons_succ]
    refine wpAnyH_take (i := 35) (v := ?vq32) rfl (by kernel_rfl) (by kernel_rfl) (by kernel_rfl) (fun _ _ _ h => h) (Or.inl ⟨by rfl, ?hyq32⟩) (by assumption) ?restq32
    case hyq32 =>
      intro W hSw
      go_simp
      try with_reducible rfl
    simp only [Act.put, List.setIfInBounds_toArray, List.set_cons_zero, List.set_cons_succ, List.getElem_toArray, List.getElem_cons_zero, List.getElem_cons_succ]
    refine wpAnyH_take (i := 36) (v := ?vq33) rfl (by kernel_rfl) (by kernel_rfl) (by kernel_rfl) (fun _ _ _ h => h) (Or.inl ⟨by rfl, ?hyq33⟩) (by assumption) ?restq33
    case hyq33 =>
      intro W hSw
      go_simp
      try with_reducible rfl
    simp only [Act.put, List.setIfInBounds_toArray, List.set_cons_zero, List.set_cons_succ, List.getElem_toArray, List.getElem_cons_zero, List.getElem_cons_succ]
    refine wpAnyH_take (i := 37) (v := ?vq34) rfl (by kernel_rfl) (by kernel_rfl) (by kernel_rfl) (fun _ _ _ h => h) (Or.inl ⟨by rfl, ?hyq34⟩) (by assumption) ?restq34
    case hyq34 =>
      intro W hSw
      go_simp
      try with_reducible rfl
    simp only [Act.put, List.setIfInBounds_toArray, List.set_cons_zero, List.set_cons_succ, List.getElem_toArray, List.getElem_cons_zero, List.getElem_cons_succ]
    refine wpAnyH_take (i := 38) (v := ?vq35) rfl (by kernel_rfl) (by kernel_rfl) (by kernel_rfl) (fun _ _ _ h => h) (Or.inl ⟨by rfl, ?hyq35⟩) (by assumption) ?restq35
    case hyq35 =>
      intro W hSw
      go_simp
      try with_reducible rfl
    simp only [Act.put, List.setIfInBounds_toArray, List.set_cons_zero, List.set_cons_succ, List.getElem_toArray, List.getElem_cons_zero, List.getElem_cons_succ]
    refine wpAnyH_take (i := 39) (v := ?vq36) rfl (by kernel_rfl) (by kernel_rfl) (by kernel_rfl) (fun _ _ _ h => h) (Or.inl ⟨by rfl, ?hyq36⟩) (by assumption) ?restq36
    case hyq36 =>
      intro W hSw
      go_simp
      try with_reducible rfl
    simp only [Act.put, List.setIfInBounds_toArray, List.set_cons_zero, List.set_cons_succ, List.getElem_toArray, List.getElem_cons_zero, List.getElem_cons_succ]
    refine wpAnyH_take (i := 40) (v := ?vq37) rfl (by kernel_rfl) (by kernel_rfl) (by kernel_rfl) (fun _ _ _ h => h) (Or.inl ⟨by rfl, ?hyq37⟩) (by assumption) ?restq37
    case hyq37 =>
      intro W hSw
      go_simp
      try with_reducible rfl
    simp only [Act.put, List.setIfInBounds_toArray, List.set_cons_zero, List.set_cons_succ, List.getElem_toArray, List.getElem_cons_zero, List.getElem_cons_succ]
    refine wpAnyH_take (i := 41) (v := ?vq38) rfl (by kernel_rfl) (by kernel_rfl) (by kernel_rfl) (fun _ _ _ h => h) (Or.inl ⟨by rfl, ?hyq38⟩) (by assumption) ?restq38
    case hyq38 =>
      intro W hSw
      go_simp
      try with_reducible rfl
    simp only [Act.put, List.setIfInBounds_toArray, List.set_cons_zero, List.set_cons_succ, List.getElem_toArray, List.getElem_cons_zero, List.getElem_cons_succ]
    refine wpAnyH_take (i := 42) (v := ?vq39) rfl (by kernel_rfl) (by kernel_rfl) (by kernel_rfl) (fun _ _ _ h => h) (Or.inl ⟨by rfl, ?hyq39⟩) (by assumption) ?restq39
    case hyq39 =>
      intro W hSw
      go_simp
      try with_reducible rfl
    simp only [Act.put, List.setIfInBounds_toArray, List.set_cons_zero, List.set_cons_succ, List.getElem_toArray, List.getElem_cons_zero, List.getElem_cons_succ]
    refine wpAnyH_take (i := 43) (v := ?vq40) rfl (by kernel_rfl) (by kernel_rfl) (by kernel_rfl) (fun _ _ _ h => h) (Or.inl ⟨by rfl, ?hyq40⟩) (by assumption) ?restq40
    case hyq40 =>
      intro W hSw
      go_simp
      try with_reducible rfl
    simp only [Act.put, List.setIfInBounds_toArray, List.set_cons_zero, List.set_cons_succ, List.getElem_toArray, List.getElem_cons_zero, List.getElem_cons_succ]
    refine wpAnyH_take (i := 44) (v := ?vq41) rfl (by kernel_rfl) (by kernel_rfl) (by kernel_rfl) (fun _ _ _ h => h) (Or.inl ⟨by rfl, ?hyq41⟩) (by assumption) ?restq41
    case hyq41 =>
      intro W hSw
      go_simp
      try with_reducible rfl
    simp only [Act.put, List.setIfInBounds_toArray, List.set_cons_zero, List.set_cons_succ, List.getElem_toArray, List.getElem_cons_zero, List.getElem_cons_succ]
    refine wpAnyH_take (i := 45) (v := ?vq42) rfl (by kernel_rfl) (by kernel_rfl) (by kernel_rfl) (fun _ _ _ h => h) (Or.inl ⟨by rfl, ?hyq42⟩) (by assumption) ?restq42
    case hyq42 =>
      intro W hSw
      go_simp
      try with_reducible rfl
    simp only [Act.put, List.setIfInBounds_toArray, List.set_cons_zero, List.set_cons_succ, List.getElem_toArray, List.getElem_cons_zero, List.getElem_cons_succ]
    refine wpAnyH_take (i := 46) (v := ?vq43) rfl (by kernel_rfl) (by kernel_rfl) (by kernel_rfl) (fun _ _ _ h => h) (Or.inl ⟨by rfl, ?hyq43⟩) (by assumption) ?restq43
    case hyq43 =>
      intro W hSw
      go_simp
      try with_reducible rfl
    simp only [Act.put, List.setIfInBounds_toArray, List.set_cons_zero, List.set_cons_succ, List.getElem_toArray, List.getElem_cons_zero, List.getElem_cons_succ]
    refine wpAnyH_take (i := 47) (v := ?vq44) rfl (by kernel_rfl) (by kernel_rfl) (by kernel_rfl) (fun _ _ _ h => h) (Or.inl ⟨by rfl, ?hyq44⟩) (by assumption) ?restq44
    case hyq44 =>
      intro W hSw
      go_simp
      try with_reducible rfl
    simp only [Act.put, List.setIfInBounds_toArray, List.set_cons_zero, List.set_cons_succ, List.getElem_toArray, List.getElem_cons_zero, List.getElem_cons_succ]
    refine wpAnyH_take (i := 48) (v := ?vq45) rfl (by kernel_rfl) (by kernel_rfl) (by kernel_rfl) (fun _ _ _ h => h) (Or.inl ⟨by rfl, ?hyq45⟩) (by assumption) ?restq45
    case hyq45 =>
      intro W hSw
      go_simp
      try with_reducible rfl
    simp only [Act.put, List.setIfInBounds_toArray, List.set_cons_zero, List.set_cons_succ, List.getElem_toArray, List.getElem_cons_zero, List.getElem_cons_succ]
    refine wpAnyH_take (i := 49) (v := ?vq46) rfl (by kernel_rfl) (by kernel_rfl) (by kernel_rfl) (fun _ _ _ h => h) (Or.inl ⟨by rfl, ?hyq46⟩) (by assumption) ?restq46
    case hyq46 =>
      intro W hSw
      go_simp
      try with_reducible rfl
    simp only [Act.put, List.setIfInBounds_toArray, List.set_cons_zero, List.set_cons_succ, List.getElem_toArray, List.getElem_cons_zero, List.getElem_cons_succ]
    refine wpAnyH_take (i := 50) (v := ?vq47) rfl (by kernel_rfl) (by kernel_rfl) (by kernel_rfl) (fun _ _ _ h => h) (Or.inl ⟨by rfl, ?hyq47⟩) (by assumption) ?restq47
    case hyq47 =>
      intro W hSw
      go_simp
      try with_reducible rfl
    simp only [Act.put, List.setIfInBounds_toArray, List.set_cons_zero, List.set_cons_succ, List.getElem_toArray, List.getElem_cons_zero, List.getElem_cons_succ]
    refine wpAnyH_done (by kernel_rfl) ?_ _
    have hBe := hHeld.2.2
    clear hHeld
    go_wp2_with fail
    go_ret
    exact ⟨rfl, hBe⟩
  · have hk := ok_no hok
    rw [hk, show hdZ d x = fun _ => 0 by unfold hdZ; rw [hk, if_neg (by simp)]] at hC1
    rw [hk, show noZ d x = fun _ => 0 by unfold noZ; rw [hk, if_neg (by simp)]] at hC2
    rw [decide_eq_false hok] at hC3
    clear hd hx hok hk
    go_wp2_with fail
    refine (hC1.out _).mono ?_
    rintro e x9 ⟨rfl, hq⟩
    have hBx9 := hBx1.trans (hq.mono hBx1.size)
    clear hq  hBx1
    obtain ⟨gh, hgh⟩ : ∃ g : Nat, x9.heap.size = g := ⟨_, rfl⟩
    have hlwgh : w.heap.size ≤ gh := by rw [← hgh]; exact hBx9.size
    have hq : Below x9.heap.size x9 (x9.alloc (.cells (arL 8 fun _ => 0).toArray 24)) := (Below.refl _ _).alloc (Nat.le_refl _) _
    have hhx10a := Ar.new x9 8 (fun _ => 0) 24
    have hBx10a := hBx9.alloc hBx9.size (.cells (arL 8 fun _ => 0).toArray 24)
    rw [hgh] at hhx10a
    clear hq  hBx9
    go_upto_region 4 with (first | (refine wpList_store_ar rfl _ _ _ rfl _ _ _ (fun _ => 0) rfl rfl hhx10a (size8n _) ?_; intro x10 hhx10 belx10 sizx10 keex10) | fail)
    have hBx10 := hBx10a.trans (belx10.mono hlwgh)
    clear  hhx10a hBx10a belx10 sizx10 keex10 hgh
    try dsimp only [Act.put]
    go_wp2_with fail
    refine (hC2.out _).mono ?_
    rintro e x11 ⟨rfl, hq⟩
    have hhx11 := (hhx10).to (by omega) hq
    have hBx11 := hBx10.trans (hq.mono hBx10.size)
    clear hq hhx10 hBx10
    obtain ⟨gn, hgn⟩ : ∃ g : Nat, x11.heap.size = g := ⟨_, rfl⟩
    have hlghgn : gh < gn := by rw [← hgn]; exact hhx11.lt (by omega)
    have hlwgn : w.heap.size ≤ gn := by rw [← hgn]; exact hBx11.size
    have hq : Below x11.heap.size x11 (x11.alloc (.cells (arL 12 fun _ => 0).toArray 27)) := (Below.refl _ _).alloc (Nat.le_refl _) _
    have hhx12a := (hhx11).to (by omega) hq
    have hnx12a := Ar.new x11 12 (fun _ => 0) 27
    have hBx12a := hBx11.alloc hBx11.size (.cells (arL 12 fun _ => 0).toArray 27)
    rw [hgn] at hnx12a
    clear hq hhx11 hBx11
    go_upto_region 5 with (first | (refine wpList_store_ar rfl _ _ _ rfl _ _ _ (fun _ => 0) rfl rfl hnx12a (size12n _) ?_; intro x12 hnx12 belx12 sizx12 keex12) | fail)
    have hhx12 := (hhx12a).keep hlghgn belx12
    have hBx12 := hBx12a.trans (belx12.mono hlwgn)
    clear hhx12a hnx12a hBx12a belx12 sizx12 keex12 hgn
    try dsimp only [Act.put]
    go_wp2_with fail
    refine (hC3.out _).mono ?_
    rintro e x13 ⟨rfl, hw9⟩
    have hq : Below x12.heap.size x12 x13 := by rw [hw9]; exact Below.refl _ _
    clear hw9
    have hhx13 := (hhx12).to (by omega) hq
    have hnx13 := (hnx12).to (by omega) hq
    have hBx13 := hBx12.trans (hq.mono hBx12.size)
    clear hq hhx12 hnx12 hBx12
    have heq := eqn8_true (f := fun _ => 0) (g := fun _ => 0) (fun _ _ => rfl)
    have heq2 := eqn12_true (f := fun _ => 0) (g := fun _ => 0) (fun _ _ => rfl)
    have hgd := Try.eqgn8
    have hgd2 := Try.eqgn12
    have z8 := Lib.hid zeron8
    have z12 := Lib.hid zeron12
    go_wp2_with (first | (refine wpList_load_ar0W rfl _ _ rfl _ _ _ rfl hhx13 Try.arr8n (size8n _) ?_) | (refine wpList_load_ar0W rfl _ _ rfl _ _ _ rfl hnx13 Try.arr12n (size12n _) ?_) | (refine wpList_build_byW rfl 24 _ rfl _ rfl _ (z8.out _) ?_) | (refine wpList_build_byW rfl 27 _ rfl _ rfl _ (z12.out _) ?_))
    go_ret
    exact ⟨rfl, hBx13⟩
end Go.Proofs.Ytbjohffpjfglgaa
