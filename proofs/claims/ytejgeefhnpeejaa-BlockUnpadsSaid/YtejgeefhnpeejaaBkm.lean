/-
  The walk of the law BlockUnpads of layer 8: for every block it returns true, and writes nothing that was there.
-/
import Derived.Test.YtejgeefhnpeejaaBki
import Derived.Test.YtejgeefhnpeejaaBkq
import Derived.Test.YtejgeefhnpeejaaBre
import Derived.Test.YtejgeefhnpeejaaBrf
import Derived.Test.YtejgeefhnpeejaaBrd
import Derived.Deep.RegionHeld3
import Derived.Test.YtejgeefhnpeejaaBrg
import Derived.Test.YtejgeefhnpeejaaBitr
namespace Go.Proofs.Ytejgeefhnpeejaa
open Go.RowKit
set_option linter.unusedVariables false
set_option maxRecDepth 100000

theorem pd_at (b : Nat → Nat) (n j : Nat) (hb : B16 b) (hn : n < 16) (hj : j < 16) : lF (padL (liB n b) 16) j = if j = n then 128 else if j < n then b j else 0 := by
  rw [lF_pad _ n j (liB_len n b) hn hj]
  by_cases h : j < n
  · have h2 : ¬ j = n := by omega
    rw [if_neg h2, if_pos h, if_neg h2, if_pos h, lF_liB n b (fun i hi => hb i (by omega)) j h]
  · by_cases h2 : j = n
    · rw [if_pos h2, if_pos h2]
    · rw [if_neg h2, if_neg h, if_neg h2, if_neg h]
theorem pd_eq (b : Nat → Nat) (n : Nat) (hb : B16 b) (hn : n < 16) (h1 : b n = 128) (h2 : ∀ j, n < j → j < 16 → b j = 0) (j : Nat) (hj : j < 16) : lF (padL (liB n b) 16) j = b j := by
  rw [pd_at b n j hb hn hj]
  by_cases h : j = n
  · rw [if_pos h, h, h1]
  · rw [if_neg h]
    by_cases h3 : j < n
    · rw [if_pos h3]
    · rw [if_neg h3, h2 j (by omega) hj]
theorem pd_ne (b : Nat → Nat) (n : Nat) (hb : B16 b) (hn : n < 16) (h : ∀ j, j < 16 → lF (padL (liB n b) 16) j = b j) : b n = 128 ∧ ∀ j, n < j → j < 16 → b j = 0 := by
  refine ⟨?_, fun j h1 h2 => ?_⟩
  · rw [← h n hn, pd_at b n n hb hn hn, if_pos rfl]
  · rw [← h j h2, pd_at b n j hb hn h2, if_neg (by omega), if_neg (by omega)]

set_option maxHeartbeats 8000000 in
theorem bunpads (b : Nat → Nat) (w : World) (hb : ∀ j, j < 16 → b j < 256) :
    Calls Try.prog 7 #[.agg (arL 16 b).toArray] w fun e w' => e = .returned (.bool true) ∧ Below w.heap.size w w' := by
  have hz := zero16x
  have m0 := Lib.hid run_bx0
  have m128 := Lib.hid run_bx128
  have m2 := Lib.hid run_bx2
  have m7 := Lib.hid run_bx7
  have m135 := Lib.hid run_bx135
  have n1 := Lib.hid run_by1
  have heq := fun X => eqx_true (f := X) (g := X) (fun _ _ => rfl)
  have hgd := Try.eqgx
  have Hb := Lib.hid hb
  obtain ⟨kb, hkb⟩ : ∃ k : Array Value, (arL 16 b).toArray = k := ⟨_, rfl⟩
  obtain ⟨w1, hw1⟩ : ∃ V : World, V = w.alloc (.cells (arL 16 b).toArray 22) := ⟨_, rfl⟩
  have hs1 : w1.heap.size = w.heap.size + 1 := by rw [hw1]; simp
  have hBw1 : Below w.heap.size w w1 := by rw [hw1]; exact (Below.refl _ _).alloc (Nat.le_refl _) _
  have hbw1 : Ar w1 w.heap.size 16 b := by rw [hw1]; exact Ar.new w 16 b _
  rw [hkb] at hw1
  rw [hkb]
  clear hkb hb
  go_enter Try.func7, Try.ntmps7
  go_upto_region 1 with fail
  rw [← hw1]
  clear hw1
  try simp only [Nat.add_assoc, Nat.reduceAdd]
  obtain ⟨gb, hgb⟩ : ∃ g : Nat, w.heap.size = g := ⟨_, rfl⟩
  rw [hgb] at hbw1
  try simp only [hgb]
  have hlb : w.heap.size ≤ gb := by omega
  clear  hs1
  go_wp2_with fail
  refine (bawake _).mono ?_
  rintro e x1 ⟨rfl, hq⟩
  have hbx1 := (hbw1).to (by omega) hq
  have hBx1 := hBw1.trans (hq.mono hBw1.size)
  clear hq hbw1 hBw1
  go_wp2_with (refine wpList_load_ar rfl _ _ rfl _ _ _ rfl hbx1 Try.arr16x (size16x _) ?_)
  refine (bunpad b _ Hb.out).mono ?_
  rintro e x2 hU
  rcases hU with ⟨m, gU, hm, h128, hz0, rfl, hU, hgU, hlU, hq⟩ | ⟨hno, rfl, hq⟩
  · have hbx2 := hbx1.to (by omega) hq
    have hBx2 := hBx1.trans (hq.mono hBx1.size)
    clear hq hbx1 hBx1
    have hVx2 : Sl x2 (World.heap x2).size (some ⟨gU, 0, none⟩) m (liB m b) := Sl.of_ar (hU.ext (fun j hj => (lF_liB m b (fun i hi => Hb.out i (by omega)) j hj).symm)) (liB_len m b) hlU
    clear hU hgU hlU
    have HZ := Lib.hid (show b m = 128 ∧ ∀ j, m < j → j < 16 → b j = 0 from ⟨h128, hz0⟩)
    clear h128 hz0
    go_wp2_with fail
    go_loopw [5] (fun i wr => ∃ n : Nat, n ≤ m ∧ i = .int .i64 n ∧ Ar wr gb 16 (b) ∧ Sl wr (World.heap wr).size (some ⟨gU, 0, none⟩) m (liB m b) ∧ Below w.heap.size w wr) (fun i _ => 16 - (intOf i).toNat)
    case atStart => exact ⟨0, Nat.zero_le _, rfl, hbx2, hVx2, hBx2⟩
    case round =>
      clear hbx2 hVx2 hBx2
      obtain ⟨n, hn, rfl, hb0, hV0, hB0⟩ := hrel
      have hn16 : n < 16 := by omega
      have i1 : (n : Int) < 16 := by omega
      have hsl := slice16h gb n (by omega)
      by_cases hnm : n = m
      · subst hnm
        have hpd := Lib.hid (arL_ext (n := 16) (fun j hj => pd_eq b n Hb.out hn16 HZ.out.1 HZ.out.2 j hj))
        go_upto_region 7 with fail
        have hbwr := hb0
        have hVwr := hV0
        have hBwr := hB0
        clear hb0 hV0 hB0
        refine wp_region_held_drew (S := fun W => Ar W gb 16 (b) ∧ Sl W (World.heap W).size (some ⟨gU, 0, none⟩) n (liB n b) ∧ Below w.heap.size w W) (by kernel_rfl) ⟨hbwr.drew, hVwr.drew, hBwr.drew⟩ (fun hHeld => ?_)
        clear hbwr hVwr hBwr 
        generalize World.drew wr = qd at *
        refine wpAnyH_take (i := 0) (v := ?vq1) rfl (by kernel_rfl) (by kernel_rfl) (by kernel_rfl) (fun _ _ _ h => h) (Or.inl ⟨by rfl, ?hyq1⟩) (by assumption) ?restq1
        case hyq1 =>
          intro W hSw
          go_simp
          try with_reducible rfl
        simp only [Act.put, List.setIfInBounds_toArray, List.set_cons_zero, List.set_cons_succ, List.getElem_toArray, List.getElem_cons_zero]
        refine wpAnyH_take (i := 1) (v := ?vq2) rfl (by kernel_rfl) (by kernel_rfl) (by kernel_rfl) (fun _ _ _ h => h) (Or.inl ⟨by rfl, ?hyq2⟩) (by assumption) ?restq2
        case hyq2 =>
          intro W hSw
          go_simp
          try with_reducible rfl
        simp only [Act.put, List.setIfInBounds_toArray, List.set_cons_zero, List.set_cons_succ, List.getElem_toArray, List.getElem_cons_zero, List.getElem_cons_succ]
        refine wpAnyH_take (i := 3) (v := .agg (arL 16 (b)).toArray) rfl (by kernel_rfl) (by kernel_rfl) (by kernel_rfl) (fun _ _ _ h => h) (yieldsIf_load_mid (by rfl) _ _ rfl gb (0) rfl (arL 16 (b)) _ (fun W hSw => hSw.1.range) Try.arr16x rfl (size16x _)) (by assumption) ?_
        simp only [Act.put, List.setIfInBounds_toArray, List.set_cons_zero, List.set_cons_succ, List.getElem_toArray, List.getElem_cons_zero, List.getElem_cons_succ]
        refine wpAnyH_ready (rs := [2]) (by kernel_rfl) (by simp) ?_
        refine AllReadyH.cons rfl (fun K hK => ?_) AllReadyH.nil
        go_simp
        refine (refpad (some ⟨gb, 0, none⟩) n 16 (liB n b) _ (Sl.of_fun (f := b) (fun j hj => Hb.out j (by omega)) (fun j hj => by rw [Nat.zero_add]; exact ((hHeld.1) j (by omega)).1) ((hHeld.1).lt (by omega))) hn16).mono ?_
        rintro e q3 ⟨rfl, hq⟩
        rw [hpd.out]
        go_wp2_with fail
        refine hK.out _ _ ⟨(hHeld.1).to (by omega) hq, ((hHeld.2.1).below hq).more hq.size, (hHeld.2.2).trans (hq.mono (hHeld.2.2).size)⟩ (fun hHeld2 => ?_)
        clear hK K hHeld hq
        have hHeld := hHeld2
        clear hHeld2
        try simp only [Act.put, List.setIfInBounds_toArray, List.set_cons_zero, List.set_cons_succ, List.getElem_toArray, List.getElem_cons_zero, List.getElem_cons_succ]
        refine wpAnyH_take (i := 4) (v := ?vq4) rfl (by kernel_rfl) (by kernel_rfl) (by kernel_rfl) (fun _ _ _ h => h) (Or.inl ⟨by rfl, ?hyq4⟩) (by assumption) ?restq4
        case hyq4 =>
          intro W hSw
          go_simp
          try with_reducible rfl
        simp only [Act.put, List.setIfInBounds_toArray, List.set_cons_zero, List.set_cons_succ, List.getElem_toArray, List.getElem_cons_zero, List.getElem_cons_succ]
        refine wpAnyH_done (by kernel_rfl) ?_ _
        have hb9 := hHeld.1
        have hV9 := hHeld.2.1
        have hB9 := hHeld.2.2
        clear hHeld
        go_wp2_with fail
        refine (same (some ⟨gU, 0, none⟩) (some ⟨gb, 0, none⟩) n n n 16 (liB n b) (liB n b) _ hV9 (Sl.of_fun (f := b) (fun j hj => Hb.out j (by omega)) (fun j hj => by rw [Nat.zero_add]; exact ((hb9) j (by omega)).1) ((hb9).lt (by omega))) (by omega) (by omega)).mono ?_
        rintro e z ⟨rfl, hD⟩
        rw [show decide (liB n b = liB n b) = true from decide_eq_true rfl]
        go_wp2_with fail
        go_ret
        exact ⟨rfl, hB9.trans (hD.below _)⟩
      · have hne := eqx_false (f := lF (padL (liB n b) 16)) (g := b) (fun h => by have h1 := (pd_ne b n Hb.out hn16 h).2 m (by omega) hm; have := HZ.out.1; omega)
        go_upto_region 7 with fail
        have hbwr := hb0
        have hVwr := hV0
        have hBwr := hB0
        clear hb0 hV0 hB0
        refine wp_region_held_drew (S := fun W => Ar W gb 16 (b) ∧ Sl W (World.heap W).size (some ⟨gU, 0, none⟩) m (liB m b) ∧ Below w.heap.size w W) (by kernel_rfl) ⟨hbwr.drew, hVwr.drew, hBwr.drew⟩ (fun hHeld => ?_)
        clear hbwr hVwr hBwr 
        generalize World.drew wr = rd at *
        refine wpAnyH_take (i := 0) (v := ?vr1) rfl (by kernel_rfl) (by kernel_rfl) (by kernel_rfl) (fun _ _ _ h => h) (Or.inl ⟨by rfl, ?hyr1⟩) (by assumption) ?restr1
        case hyr1 =>
          intro W hSw
          go_simp
          try with_reducible rfl
        simp only [Act.put, List.setIfInBounds_toArray, List.set_cons_zero, List.set_cons_succ, List.getElem_toArray, List.getElem_cons_zero]
        refine wpAnyH_take (i := 1) (v := ?vr2) rfl (by kernel_rfl) (by kernel_rfl) (by kernel_rfl) (fun _ _ _ h => h) (Or.inl ⟨by rfl, ?hyr2⟩) (by assumption) ?restr2
        case hyr2 =>
          intro W hSw
          go_simp
          try with_reducible rfl
        simp only [Act.put, List.setIfInBounds_toArray, List.set_cons_zero, List.set_cons_succ, List.getElem_toArray, List.getElem_cons_zero, List.getElem_cons_succ]
        refine wpAnyH_take (i := 3) (v := .agg (arL 16 (b)).toArray) rfl (by kernel_rfl) (by kernel_rfl) (by kernel_rfl) (fun _ _ _ h => h) (yieldsIf_load_mid (by rfl) _ _ rfl gb (0) rfl (arL 16 (b)) _ (fun W hSw => hSw.1.range) Try.arr16x rfl (size16x _)) (by assumption) ?_
        simp only [Act.put, List.setIfInBounds_toArray, List.set_cons_zero, List.set_cons_succ, List.getElem_toArray, List.getElem_cons_zero, List.getElem_cons_succ]
        refine wpAnyH_ready (rs := [2]) (by kernel_rfl) (by simp) ?_
        refine AllReadyH.cons rfl (fun K hK => ?_) AllReadyH.nil
        go_simp
        refine (refpad (some ⟨gb, 0, none⟩) n 16 (liB n b) _ (Sl.of_fun (f := b) (fun j hj => Hb.out j (by omega)) (fun j hj => by rw [Nat.zero_add]; exact ((hHeld.1) j (by omega)).1) ((hHeld.1).lt (by omega))) hn16).mono ?_
        rintro e r3 ⟨rfl, hq⟩
        go_wp2_with fail
        refine hK.out _ _ ⟨(hHeld.1).to (by omega) hq, ((hHeld.2.1).below hq).more hq.size, (hHeld.2.2).trans (hq.mono (hHeld.2.2).size)⟩ (fun hHeld2 => ?_)
        clear hK K hHeld hq
        have hHeld := hHeld2
        clear hHeld2
        try simp only [Act.put, List.setIfInBounds_toArray, List.set_cons_zero, List.set_cons_succ, List.getElem_toArray, List.getElem_cons_zero, List.getElem_cons_succ]
        refine wpAnyH_take (i := 4) (v := ?vr4) rfl (by kernel_rfl) (by kernel_rfl) (by kernel_rfl) (fun _ _ _ h => h) (Or.inl ⟨by rfl, ?hyr4⟩) (by assumption) ?restr4
        case hyr4 =>
          intro W hSw
          go_simp
          try with_reducible rfl
        simp only [Act.put, List.setIfInBounds_toArray, List.set_cons_zero, List.set_cons_succ, List.getElem_toArray, List.getElem_cons_zero, List.getElem_cons_succ]
        refine wpAnyH_done (by kernel_rfl) ?_ _
        have hb9 := hHeld.1
        have hV9 := hHeld.2.1
        have hB9 := hHeld.2.2
        clear hHeld
        go_wp2_with fail
        go_roundw
        case rel => exact ⟨n + 1, by omega, by go_num, hb9, hV9, hB9⟩
        case measure => simp [intOf]; omega
  · have hbx2 := hbx1.to (by omega) hq
    have hBx2 := hBx1.trans (hq.mono hBx1.size)
    clear hq hbx1 hBx1
    have HNO := Lib.hid hno
    clear hno
    go_wp2_with fail
    go_loopw [5] (fun i wr => ∃ n : Nat, n ≤ 16 ∧ i = .int .i64 n ∧ Ar wr gb 16 (b) ∧ Below w.heap.size w wr) (fun i _ => 16 - (intOf i).toNat)
    case atStart => exact ⟨0, Nat.zero_le _, rfl, hbx2, hBx2⟩
    case round =>
      clear hbx2 hBx2
      obtain ⟨n, hn, rfl, hb0, hB0⟩ := hrel
      by_cases hn16 : n < 16
      · have i1 : (n : Int) < 16 := by omega
        have hsl := slice16h gb n (by omega)
        have hne := eqx_false (f := lF (padL (liB n b) 16)) (g := b) (fun h => by have h1 := pd_ne b n Hb.out hn16 h; obtain ⟨j, h2, h3, h4⟩ := HNO.out n hn16 h1.1; exact h4 (h1.2 j h2 h3))
        go_upto_region 7 with fail
        have hbwr := hb0
        have hBwr := hB0
        clear hb0 hB0
        refine wp_region_held_drew (S := fun W => Ar W gb 16 (b) ∧ Below w.heap.size w W) (by kernel_rfl) ⟨hbwr.drew, hBwr.drew⟩ (fun hHeld => ?_)
        clear hbwr hBwr 
        generalize World.drew wr = ud at *
        refine wpAnyH_take (i := 0) (v := ?vu1) rfl (by kernel_rfl) (by kernel_rfl) (by kernel_rfl) (fun _ _ _ h => h) (Or.inl ⟨by rfl, ?hyu1⟩) (by assumption) ?restu1
        case hyu1 =>
          intro W hSw
          go_simp
          try with_reducible rfl
        simp only [Act.put, List.setIfInBounds_toArray, List.set_cons_zero, List.set_cons_succ, List.getElem_toArray, List.getElem_cons_zero]
        refine wpAnyH_take (i := 1) (v := ?vu2) rfl (by kernel_rfl) (by kernel_rfl) (by kernel_rfl) (fun _ _ _ h => h) (Or.inl ⟨by rfl, ?hyu2⟩) (by assumption) ?restu2
        case hyu2 =>
          intro W hSw
          go_simp
          try with_reducible rfl
        simp only [Act.put, List.setIfInBounds_toArray, List.set_cons_zero, List.set_cons_succ, List.getElem_toArray, List.getElem_cons_zero, List.getElem_cons_succ]
        refine wpAnyH_take (i := 3) (v := .agg (arL 16 (b)).toArray) rfl (by kernel_rfl) (by kernel_rfl) (by kernel_rfl) (fun _ _ _ h => h) (yieldsIf_load_mid (by rfl) _ _ rfl gb (0) rfl (arL 16 (b)) _ (fun W hSw => hSw.1.range) Try.arr16x rfl (size16x _)) (by assumption) ?_
        simp only [Act.put, List.setIfInBounds_toArray, List.set_cons_zero, List.set_cons_succ, List.getElem_toArray, List.getElem_cons_zero, List.getElem_cons_succ]
        refine wpAnyH_ready (rs := [2]) (by kernel_rfl) (by simp) ?_
        refine AllReadyH.cons rfl (fun K hK => ?_) AllReadyH.nil
        go_simp
        refine (refpad (some ⟨gb, 0, none⟩) n 16 (liB n b) _ (Sl.of_fun (f := b) (fun j hj => Hb.out j (by omega)) (fun j hj => by rw [Nat.zero_add]; exact ((hHeld.1) j (by omega)).1) ((hHeld.1).lt (by omega))) hn16).mono ?_
        rintro e u3 ⟨rfl, hq⟩
        go_wp2_with fail
        refine hK.out _ _ ⟨(hHeld.1).to (by omega) hq, (hHeld.2).trans (hq.mono (hHeld.2).size)⟩ (fun hHeld2 => ?_)
        clear hK K hHeld hq
        have hHeld := hHeld2
        clear hHeld2
        try simp only [Act.put, List.setIfInBounds_toArray, List.set_cons_zero, List.set_cons_succ, List.getElem_toArray, List.getElem_cons_zero, List.getElem_cons_succ]
        refine wpAnyH_take (i := 4) (v := ?vu4) rfl (by kernel_rfl) (by kernel_rfl) (by kernel_rfl) (fun _ _ _ h => h) (Or.inl ⟨by rfl, ?hyu4⟩) (by assumption) ?restu4
        case hyu4 =>
          intro W hSw
          go_simp
          try with_reducible rfl
        simp only [Act.put, List.setIfInBounds_toArray, List.set_cons_zero, List.set_cons_succ, List.getElem_toArray, List.getElem_cons_zero, List.getElem_cons_succ]
        refine wpAnyH_done (by kernel_rfl) ?_ _
        have hb9 := hHeld.1
        have hB9 := hHeld.2
        clear hHeld
        go_wp2_with fail
        go_roundw
        case rel => exact ⟨n + 1, by omega, by go_num, hb9, hB9⟩
        case measure => simp [intOf]; omega
      · obtain rfl : n = 16 := by omega
        go_wp2_with fail
        go_ret
        exact ⟨rfl, hB0⟩
end Go.Proofs.Ytejgeefhnpeejaa
