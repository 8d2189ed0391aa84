/-
  The walk of the law NonceHeads of layer 15: for every string of bytes it returns true, and writes nothing that was there.
-/
import Derived.Test.YtbjohffpjfglgaaNce
import Derived.Test.YtbjohffpjfglgaaArg
import Derived.Deep.RegionHeld3
namespace Go.Proofs.Ytbjohffpjfglgaa
open Go.RowKit
set_option linter.unusedVariables false
set_option maxRecDepth 100000
set_option linter.unusedSimpArgs false

theorem ph8 (l : List UInt8) (h : 8 ≤ l.length) : phD l = hdD (l.take 8) ∧ phX l = hdX (l.take 8) := by unfold phD phX; rw [if_pos h, if_pos h]; exact ⟨rfl, rfl⟩
theorem hdF_liB {d x : Nat} (F : Nat → Nat) (h : hdF d x = F) : liB 8 F = hdL d x := by
  subst h
  apply lF_ext8
  · rw [liB_len, hdL_len]
  · intro j hj
    rw [hdL_len] at hj
    rw [lF_liB 8 _ (fun i hi => hdF_lt d x i hi) j hj]
    rfl
theorem hdF_tl {h : Nat → Nat} (hb : ∀ j, j < 8 → h j < 256) : ∀ j, j < 8 → hdF (hdD (liB 8 h)) (hdX (liB 8 h)) j = h j := fun j hj => by
  unfold hdF
  rw [hd_of (liB_len 8 h), lF_liB 8 h hb j hj]

theorem range8 {w : World} {bk off : Nat} {l : List UInt8} (h8 : (l.take 8).length = 8) (hc : ∀ j u, l[j]? = some u → w.cell? ⟨bk, off + j, none⟩ = some (b8 u)) : w.rangeAt bk off (arL 8 (lF (l.take 8))) := fun j v hv => by
  rw [← map_lF _ 8 h8] at hv
  rcases Nat.lt_or_ge j 8 with h1 | h1
  · rw [List.map_take, List.getElem?_take_of_lt h1, List.getElem?_map] at hv
    cases hj : l[j]? with
    | none => rw [hj] at hv; cases hv
    | some u => rw [hj] at hv; injection hv with e; rw [← e]; exact hc j u hj
  · rw [List.getElem?_eq_none (by rw [List.length_map, h8]; omega)] at hv; cases hv
def Pr (w : World) (bk off : Nat) (F : Nat → Nat) : Prop := w.rangeAt bk off (arL 8 F)
theorem Pr.drew {w : World} {bk off : Nat} {F : Nat → Nat} (h : Pr w bk off F) : Pr w.drew bk off F := h

set_option maxHeartbeats 4000000 in
theorem nheads (A : Option Addr) (n c : Nat) (l : List UInt8) (w : World) (hS : Sl w w.heap.size A n l) (hnc : n ≤ c) (hcm : c ≤ maxLen) :
    Calls Try.prog 4 #[.slice A n c] w fun e w' => e = .returned (.bool true) ∧ Below w.heap.size w w' := by
  have hz := zero12n
  have hz8 := zero8n
  have hBw : Below w.heap.size w w := Below.refl _ _
  go_enter Try.func4, Try.ntmps4
  have HL := Lib.hid hS.len
  by_cases h100 : 100 < n
  · have i1 : (n : Int) > 100 := by omega
    clear hS hnc hcm h100
    go_wp2_with fail
    refine (nawake _).mono ?_
    rintro e x1 ⟨rfl, hq⟩
    have hBx1 := hBw.trans (hq.mono hBw.size)
    clear hq  hBw
    go_wp2_with fail
    refine (nawake _).mono ?_
    rintro e x2 ⟨rfl, hq⟩
    have hBx2 := hBx1.trans (hq.mono hBx1.size)
    clear hq  hBx1
    go_wp2_with fail
    go_ret
    exact ⟨rfl, hBx2⟩
  have i1 : ¬ ((n : Int) > 100) := by omega
  have hc9 := hcm
  clear hcm
  by_cases h8 : 8 ≤ n
  · obtain ⟨bk, off, rfl, hbk, hcells⟩ := hS.2 (by omega)
    obtain ⟨r, hr⟩ : ∃ r, l.take 8 = r := ⟨_, rfl⟩
    have hrl : r.length = 8 := by rw [← hr, List.length_take, HL.out]; omega
    have hP : w.rangeAt bk off (arL 8 (lF r)) := by rw [← hr]; exact range8 (by rw [hr]; exact hrl) hcells
    obtain ⟨q, hq2⟩ : ∃ q, hdD r = q := ⟨_, rfl⟩
    obtain ⟨z, hz2⟩ : ∃ z, hdX r = z := ⟨_, rfl⟩
    have hq3 : q < 2 := by rw [← hq2]; exact hdD_lt r
    have hz3 : z < 9223372036854775808 := by rw [← hz2]; exact hdX_lt r
    have hP8 := ph8 l (by rw [HL.out]; omega)
    rw [hr, hq2, hz2] at hP8
    obtain ⟨F, hF⟩ : ∃ F, lF r = F := ⟨_, rfl⟩
    rw [hF] at hP
    have hC := Lib.hid (fun V hV => nphead (some ⟨bk, off, none⟩) n c l V (hS.below hV |>.more (Below.size hV)) hnc hc9)
    rw [hP8.1, hP8.2, decide_eq_true (show 8 ≤ l.length by rw [HL.out]; omega)] at hC
    have hR := Lib.hid (fun V hV => rphead (some ⟨bk, off, none⟩) n c l V (hS.below hV |>.more (Below.size hV)) h8 hnc hc9)
    rw [hr, hq2, hz2] at hR
    have hH := Lib.hid (fun V => nhead (q : Int) z V (by omega) (by omega))
    have hok : okN (q : Int) z = true := ok_yes (by omega) hz3
    rw [hok, show hdZ (q : Int) z = F by unfold hdZ; rw [hok, if_pos rfl, Int.toNat_natCast]; unfold hdF; rw [← hq2, ← hz2, hd_of hrl, hF]] at hH
    have hP1 := Lib.hid hP
    have hBK := Lib.hid hbk
    have i2 : ¬ (n : Int) < 8 := by omega
    have i3 : (8 : Int) ≤ (c : Int) := by omega
    clear hS hcells hr hrl hP hq2 hz2 hq3 hz3 hP8 hF hok hc9 hbk
    go_wp2_with fail
    refine (nawake _).mono ?_
    rintro e x3 ⟨rfl, hq⟩
    have hBx3 := hBw.trans (hq.mono hBw.size)
    clear hq  hBw
    go_wp2_with fail
    refine (hC.out _ hBx3).mono ?_
    rintro e x4 ⟨rfl, hq⟩
    have hBx4 := hBx3.trans (hq.mono hBx3.size)
    clear hq  hBx3
    go_wp2_with fail
    refine (hR.out _ hBx4).mono ?_
    rintro e x5 ⟨rfl, hw9⟩
    have hq : Below x4.heap.size x4 x5 := by rw [hw9]; exact Below.refl _ _
    clear hw9
    have hBx5 := hBx4.trans (hq.mono hBx4.size)
    clear hq  hBx4
    go_wp2_with fail
    refine (hH.out _).mono ?_
    rintro e x6 ⟨rfl, hq⟩
    have hBx6 := hBx5.trans (hq.mono hBx5.size)
    clear hq  hBx5
    obtain ⟨gh, hgh⟩ : ∃ g : Nat, x6.heap.size = g := ⟨_, rfl⟩
    have hlwgh : w.heap.size ≤ gh := by rw [← hgh]; exact hBx6.size
    have hq : Below x6.heap.size x6 (x6.alloc (.cells (arL 8 fun _ => 0).toArray 24)) := (Below.refl _ _).alloc (Nat.le_refl _) _
    have hhx7a := Ar.new x6 8 (fun _ => 0) 24
    have hBx7a := hBx6.alloc hBx6.size (.cells (arL 8 fun _ => 0).toArray 24)
    rw [hgh] at hhx7a
    clear hq  hBx6
    go_upto_region 8 with (first | (refine wpList_store_ar rfl _ _ _ rfl _ _ _ (F) rfl rfl hhx7a (size8n _) ?_; intro x7 hhx7 belx7 sizx7 keex7) | fail)
    have hBx7 := hBx7a.trans (belx7.mono hlwgh)
    clear  hhx7a hBx7a belx7 sizx7 keex7 hgh
    try dsimp only [Act.put]
    have hPx7 : Pr x7 bk off F := fun j v hv => by rw [hBx7.cell (by simpa using hBK.out)]; exact hP1.out j v hv
    have hat := arrayAt8n
    have heq := eqn8_true (f := F) (g := F) (fun _ _ => rfl)
    have hgd := Try.eqgn8
    refine wp_region_held_drew (S := fun W => Ar W gh 8 (F) ∧ Pr W bk off F ∧ Below w.heap.size w W) (by kernel_rfl) ⟨hhx7.drew, hPx7.drew, hBx7.drew⟩ (fun hHeld => ?_)
    clear hhx7 hPx7 hBx7 
    generalize World.drew x7 = qd at *
    refine wpAnyH_take (i := 0) (v := ?vq1) rfl (by kernel_rfl) (by kernel_rfl) (by kernel_rfl) (fun _ _ _ h => h) (Or.inl ⟨by rfl, ?hyq1⟩) (by assumption) ?restq1
    case hyq1 =>
      intro W hSw
      go_simp
      try with_reducible rfl
    simp only [Act.put, List.setIfInBounds_toArray, List.set_cons_zero, List.set_cons_succ, List.getElem_toArray, List.getElem_cons_zero]
    refine wpAnyH_take (i := 1) (v := ?vq2) rfl (by kernel_rfl) (by kernel_rfl) (by kernel_rfl) (fun _ _ _ h => h) (Or.inl ⟨by rfl, ?hyq2⟩) (by assumption) ?restq2
    case hyq2 =>
      intro W hSw
      go_simp
      try with_reducible rfl
    simp only [Act.put, List.setIfInBounds_toArray, List.set_cons_zero, List.set_cons_succ, List.getElem_toArray, List.getElem_cons_zero, List.getElem_cons_succ]
    refine wpAnyH_take (i := 2) (v := ?vq3) rfl (by kernel_rfl) (by kernel_rfl) (by kernel_rfl) (fun _ _ _ h => h) (Or.inl ⟨by rfl, ?hyq3⟩) (by assumption) ?restq3
    case hyq3 =>
      intro W hSw
      go_simp
      try with_reducible rfl
    simp only [Act.put, List.setIfInBounds_toArray, List.set_cons_zero, List.set_cons_succ, List.getElem_toArray, List.getElem_cons_zero, List.getElem_cons_succ]
    refine wpAnyH_take (i := 3) (v := ?vq4) rfl (by kernel_rfl) (by kernel_rfl) (by kernel_rfl) (fun _ _ _ h => h) (Or.inl ⟨by rfl, ?hyq4⟩) (by assumption) ?restq4
    case hyq4 =>
      intro W hSw
      go_simp
      try with_reducible rfl
    simp only [Act.put, List.setIfInBounds_toArray, List.set_cons_zero, List.set_cons_succ, List.getElem_toArray, List.getElem_cons_zero, List.getElem_cons_succ]
    refine wpAnyH_take (i := 4) (v := ?vq5) rfl (by kernel_rfl) (by kernel_rfl) (by kernel_rfl) (fun _ _ _ h => h) (Or.inl ⟨by rfl, ?hyq5⟩) (by assumption) ?restq5
    case hyq5 =>
      intro W hSw
      go_simp
      try with_reducible rfl
    simp only [Act.put, List.setIfInBounds_toArray, List.set_cons_zero, List.set_cons_succ, List.getElem_toArray, List.getElem_cons_zero, List.getElem_cons_succ]
    refine wpAnyH_take (i := 5) (v := ?vq6) rfl (by kernel_rfl) (by kernel_rfl) (by kernel_rfl) (fun _ _ _ h => h) (Or.inl ⟨by rfl, ?hyq6⟩) (by assumption) ?restq6
    case hyq6 =>
      intro W hSw
      go_simp
      try with_reducible rfl
    simp only [Act.put, List.setIfInBounds_toArray, List.set_cons_zero, List.set_cons_succ, List.getElem_toArray, List.getElem_cons_zero, List.getElem_cons_succ]
    refine wpAnyH_take (i := 6) (v := ?vq7) rfl (by kernel_rfl) (by kernel_rfl) (by kernel_rfl) (fun _ _ _ h => h) (Or.inl ⟨by rfl, ?hyq7⟩) (by assumption) ?restq7
    case hyq7 =>
      intro W hSw
      go_simp
      try with_reducible rfl
    simp only [Act.put, List.setIfInBounds_toArray, List.set_cons_zero, List.set_cons_succ, List.getElem_toArray, List.getElem_cons_zero, List.getElem_cons_succ]
    refine wpAnyH_take (i := 7) (v := ?vq8) rfl (by kernel_rfl) (by kernel_rfl) (by kernel_rfl) (fun _ _ _ h => h) (Or.inl ⟨by rfl, ?hyq8⟩) (by assumption) ?restq8
    case hyq8 =>
      intro W hSw
      go_simp
      try with_reducible rfl
    simp only [Act.put, List.setIfInBounds_toArray, List.set_cons_zero, List.set_cons_succ, List.getElem_toArray, List.getElem_cons_zero, List.getElem_cons_succ]
    refine wpAnyH_take (i := 8) (v := ?vq9) rfl (by kernel_rfl) (by kernel_rfl) (by kernel_rfl) (fun _ _ _ h => h) (Or.inl ⟨by rfl, ?hyq9⟩) (by assumption) ?restq9
    case hyq9 =>
      intro W hSw
      go_simp
      try with_reducible rfl
    simp only [Act.put, List.setIfInBounds_toArray, List.set_cons_zero, List.set_cons_succ, List.getElem_toArray, List.getElem_cons_zero, List.getElem_cons_succ]
    refine wpAnyH_take (i := 9) (v := ?vq10) rfl (by kernel_rfl) (by kernel_rfl) (by kernel_rfl) (fun _ _ _ h => h) (Or.inl ⟨by rfl, ?hyq10⟩) (by assumption) ?restq10
    case hyq10 =>
      intro W hSw
      go_simp
      try with_reducible rfl
    simp only [Act.put, List.setIfInBounds_toArray, List.set_cons_zero, List.set_cons_succ, List.getElem_toArray, List.getElem_cons_zero, List.getElem_cons_succ]
    refine wpAnyH_take (i := 10) (v := ?vq11) rfl (by kernel_rfl) (by kernel_rfl) (by kernel_rfl) (fun _ _ _ h => h) (Or.inl ⟨by rfl, ?hyq11⟩) (by assumption) ?restq11
    case hyq11 =>
      intro W hSw
      go_simp
      try with_reducible rfl
    simp only [Act.put, List.setIfInBounds_toArray, List.set_cons_zero, List.set_cons_succ, List.getElem_toArray, List.getElem_cons_zero, List.getElem_cons_succ]
    refine wpAnyH_take (i := 11) (v := ?vq12) rfl (by kernel_rfl) (by kernel_rfl) (by kernel_rfl) (fun _ _ _ h => h) (Or.inl ⟨by rfl, ?hyq12⟩) (by assumption) ?restq12
    case hyq12 =>
      intro W hSw
      go_simp
      try with_reducible rfl
    simp only [Act.put, List.setIfInBounds_toArray, List.set_cons_zero, List.set_cons_succ, List.getElem_toArray, List.getElem_cons_zero, List.getElem_cons_succ]
    refine wpAnyH_take (i := 12) (v := ?vq13) rfl (by kernel_rfl) (by kernel_rfl) (by kernel_rfl) (fun _ _ _ h => h) (Or.inl ⟨by rfl, ?hyq13⟩) (by assumption) ?restq13
    case hyq13 =>
      intro W hSw
      go_simp
      try with_reducible rfl
    simp only [Act.put, List.setIfInBounds_toArray, List.set_cons_zero, List.set_cons_succ, List.getElem_toArray, List.getElem_cons_zero, List.getElem_cons_succ]
    refine wpAnyH_take (i := 13) (v := ?vq14) rfl (by kernel_rfl) (by kernel_rfl) (by kernel_rfl) (fun _ _ _ h => h) (Or.inl ⟨by rfl, ?hyq14⟩) (by assumption) ?restq14
    case hyq14 =>
      intro W hSw
      go_simp
      try with_reducible rfl
    simp only [Act.put, List.setIfInBounds_toArray, List.set_cons_zero, List.set_cons_succ, List.getElem_toArray, List.getElem_cons_zero, List.getElem_cons_succ]
    refine wpAnyH_take (i := 14) (v := ?vq15) rfl (by kernel_rfl) (by kernel_rfl) (by kernel_rfl) (fun _ _ _ h => h) (Or.inl ⟨by rfl, ?hyq15⟩) (by assumption) ?restq15
    case hyq15 =>
      intro W hSw
      go_simp
      try with_reducible rfl
    simp only [Act.put, List.setIfInBounds_toArray, List.set_cons_zero, List.set_cons_succ, List.getElem_toArray, List.getElem_cons_zero, List.getElem_cons_succ]
    refine wpAnyH_take (i := 15) (v := .agg (arL 8 (F)).toArray) rfl (by kernel_rfl) (by kernel_rfl) (by kernel_rfl) (fun _ _ _ h => h) (yieldsIf_load_mid (by rfl) _ _ rfl gh (0) rfl (arL 8 (F)) _ (fun W hSw => hSw.1.range) Try.arr8n rfl (size8n _)) (by assumption) ?_
    simp only [Act.put, List.setIfInBounds_toArray, List.set_cons_zero, List.set_cons_succ, List.getElem_toArray, List.getElem_cons_zero, List.getElem_cons_succ]
    refine wpAnyH_take (i := 16) (v := ?vq16) rfl (by kernel_rfl) (by kernel_rfl) (by kernel_rfl) (fun _ _ _ h => h) (Or.inl ⟨by rfl, ?hyq16⟩) (by assumption) ?restq16
    case hyq16 =>
      intro W hSw
      go_simp
      try with_reducible rfl
    simp only [Act.put, List.setIfInBounds_toArray, List.set_cons_zero, List.set_cons_succ, List.getElem_toArray, List.getElem_cons_zero, List.getElem_cons_succ]
    refine wpAnyH_take (i := 17) (v := ?vq17) rfl (by kernel_rfl) (by kernel_rfl) (by kernel_rfl) (fun _ _ _ h => h) (Or.inl ⟨by rfl, ?hyq17⟩) (by assumption) ?restq17
    case hyq17 =>
      intro W hSw
      go_simp
      try with_reducible rfl
    simp only [Act.put, List.setIfInBounds_toArray, List.set_cons_zero, List.set_cons_succ, List.getElem_toArray, List.getElem_cons_zero, List.getElem_cons_succ]
    refine wpAnyH_ready (rs := [18]) (by kernel_rfl) (by simp) ?_
    refine AllReadyH.cons rfl (fun K hK => ?_) AllReadyH.nil
    go_simp
    refine hK.out _ _ hHeld (fun hHeld2 => ?_)
    clear hK K hHeld
    have hHeld := hHeld2
    clear hHeld2
    try simp only [Act.put, List.setIfInBounds_toArray, List.set_cons_zero, List.set_cons_succ, List.getElem_toArray, List.getElem_cons_zero, List.getElem_cons_succ]
    refine wpAnyH_take (i := 19) (v := .agg (arL 8 F).toArray) rfl (by kernel_rfl) (by kernel_rfl) (by kernel_rfl) (fun _ _ _ h => h) (yieldsIf_load_mid (by rfl) _ _ rfl bk (off) rfl (arL 8 F) _ (fun W hSw => hSw.2.1) Try.arr8n rfl (size8n _)) (by assumption) ?_
    simp only [Act.put, List.setIfInBounds_toArray, List.set_cons_zero, List.set_cons_succ, List.getElem_toArray, List.getElem_cons_zero, List.getElem_cons_succ]
    refine wpAnyH_take (i := 20) (v := ?vq18) rfl (by kernel_rfl) (by kernel_rfl) (by kernel_rfl) (fun _ _ _ h => h) (Or.inl ⟨by rfl, ?hyq18⟩) (by assumption) ?restq18
    case hyq18 =>
      intro W hSw
      go_simp
      try with_reducible rfl
    simp only [Act.put, List.setIfInBounds_toArray, List.set_cons_zero, List.set_cons_succ, List.getElem_toArray, List.getElem_cons_zero, List.getElem_cons_succ]
    refine wpAnyH_take (i := 21) (v := ?vq19) rfl (by kernel_rfl) (by kernel_rfl) (by kernel_rfl) (fun _ _ _ h => h) (Or.inl ⟨by rfl, ?hyq19⟩) (by assumption) ?restq19
    case hyq19 =>
      intro W hSw
      go_simp
      try with_reducible rfl
    simp only [Act.put, List.setIfInBounds_toArray, List.set_cons_zero, List.set_cons_succ, List.getElem_toArray, List.getElem_cons_zero, List.getElem_cons_succ]
    refine wpAnyH_take (i := 22) (v := ?vq20) rfl (by kernel_rfl) (by kernel_rfl) (by kernel_rfl) (fun _ _ _ h => h) (Or.inl ⟨by rfl, ?hyq20⟩) (by assumption) ?restq20
    case hyq20 =>
      intro W hSw
      go_simp
      try with_reducible rfl
    simp only [Act.put, List.setIfInBounds_toArray, List.set_cons_zero, List.set_cons_succ, List.getElem_toArray, List.getElem_cons_zero, List.getElem_cons_succ]
    refine wpAnyH_done (by kernel_rfl) ?_ _
    have hBe := hHeld.2.2
    clear hHeld
    go_wp2_with fail
    go_ret
    exact ⟨rfl, hBe⟩
  · have hC := Lib.hid (fun V hV => nphead A n c l V (hS.below hV |>.more (Below.size hV)) hnc hc9)
    rw [show phD l = 0 by unfold phD; rw [if_neg (by rw [HL.out]; omega)], show phX l = 0 by unfold phX; rw [if_neg (by rw [HL.out]; omega)], decide_eq_false (show ¬ 8 ≤ l.length by rw [HL.out]; omega)] at hC
    have i2 : (n : Int) < 8 := by omega
    clear hS hnc hc9 h8 h100
    go_wp2_with fail
    refine (nawake _).mono ?_
    rintro e x8 ⟨rfl, hq⟩
    have hBx8 := hBw.trans (hq.mono hBw.size)
    clear hq  hBw
    go_wp2_with fail
    refine (hC.out _ hBx8).mono ?_
    rintro e x9 ⟨rfl, hq⟩
    have hBx9 := hBx8.trans (hq.mono hBx8.size)
    clear hq  hBx8
    go_wp2_with fail
    go_ret
    exact ⟨rfl, hBx9⟩
end Go.Proofs.Ytbjohffpjfglgaa
