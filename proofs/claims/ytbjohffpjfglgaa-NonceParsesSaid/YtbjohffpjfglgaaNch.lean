/-
  Contracts of package nonce: Make, Parse, by walks through their texts; what was there stays as it was.
-/
import Derived.Test.YtbjohffpjfglgaaNcg
namespace Go.Proofs.Ytbjohffpjfglgaa
open Go.RowKit
set_option linter.unusedVariables false
set_option maxRecDepth 100000

set_option linter.unusedSimpArgs false
theorem hdZ_lt (d : Int) (x : Nat) : ∀ j, j < 8 → hdZ d x j < 256 := fun j hj => by
  unfold hdZ
  split
  · exact hdF_lt _ _ j hj
  · show 0 < 256; omega
theorem noZ_eq (d : Int) (x : Nat) : noZ d x = noF (hdZ d x) := by
  unfold noZ hdZ
  split
  · rfl
  · funext j; unfold noF; split <;> rfl
theorem four_yes {n : Nat → Nat} (h : ∀ j, j < 4 → n j = 0) : four n = true := decide_eq_true ⟨h 0 (by omega), h 1 (by omega), h 2 (by omega), h 3 (by omega)⟩
theorem four_no {n : Nat → Nat} (h : ¬ ∀ j, j < 4 → n j = 0) : four n = false := decide_eq_false fun h9 => h fun j hj => by
  obtain ⟨a, b, c, d⟩ := h9
  have e : j = 0 ∨ j = 1 ∨ j = 2 ∨ j = 3 := by omega
  rcases e with rfl | rfl | rfl | rfl <;> assumption
theorem ph_eight (h : Nat → Nat) : phD (liB 8 h) = hdD (liB 8 h) ∧ phX (liB 8 h) = hdX (liB 8 h) ∧ decide (8 ≤ (liB 8 h).length) = true := by
  have e := liB_len 8 h
  unfold phD phX
  rw [if_pos (by omega), if_pos (by omega), List.take_of_length_le (by omega)]
  exact ⟨rfl, rfl, decide_eq_true (by omega)⟩
theorem slice124 (g : Nat) (w : World) : (Instr.sliceAt 27 (.pointer (some ⟨g, 0, none⟩)) (some (.int .i64 4)) none none).run Try.prog w = .ok (.slice (some ⟨g, 4, none⟩) 8 8) w := by
  have hal : Try.prog.arrayLen 27 = 12 := by simp [Program.arrayLen]
  have hel : Try.prog.elem 27 = 5 := by simp [Program.elem]
  have hs : (sizeOf 5).run Try.prog w = .ok 1 w := by kernel_rfl
  rw [run_sliceAt_array_l w 27 ⟨g, 0, none⟩ (by rw [hal, hel]; exact Try.arr12n) .i64 4 (by omega) (by rw [hal]; omega), hal, hel, hs]
  simp [Result.andThen_ok, slicedAt, Addr.add]

set_option maxHeartbeats 1600000 in
theorem nmake (d : Int) (x : Nat) (w : World) (hd : -9223372036854775808 ≤ d ∧ d ≤ 9223372036854775807) (hx : x < 18446744073709551616) :
    Calls Try.prog 10 #[.int .i64 d, .int .u64 (x : Int)] w fun e w' => e = .returned (.tuple #[.agg (arL 12 (noZ d x)).toArray, .bool (okN d x)]) ∧ Below w.heap.size w w' := by
  obtain ⟨w1, hw1⟩ : ∃ V : World, V = w.alloc (.cells (arL 12 (fun _ => 0)).toArray 27) := ⟨_, rfl⟩
  have hs1 : w1.heap.size = w.heap.size + 1 := by rw [hw1]; simp
  have hBw1 : Below w.heap.size w w1 := by rw [hw1]; exact (Below.refl _ _).alloc (Nat.le_refl _) _
  have hRw1 : Ar w1 w.heap.size 12 (fun _ => 0) := by rw [hw1]; exact Ar.new w 12 _ _
  have hz := zero12n
  have hz8 := zero8n
  have HN := Lib.hid (fun V => nhead d x V hd hx)
  obtain ⟨H, hH⟩ : ∃ H, hdZ d x = H := ⟨_, rfl⟩
  have HB := Lib.hid (show ∀ j, j < 8 → H j < 256 by rw [← hH]; exact hdZ_lt d x)
  have HE := Lib.hid (show noZ d x = noF H by rw [← hH]; exact noZ_eq d x)
  obtain ⟨o, ho⟩ : ∃ o, okN d x = o := ⟨_, rfl⟩
  rw [hH, ho] at HN
  rw [HE.out, ho]
  clear hH ho hd hx HE
  go_enter Try.func10, Try.ntmps10
  go_upto_region 1 with fail
  rw [← hw1]
  clear hw1
  try simp only [Nat.add_assoc, Nat.reduceAdd]
  clear hs1 
  go_wp2_with fail
  refine (HN.out _).mono ?_
  rintro e x1 ⟨rfl, hq⟩
  have hRx1 := (hRw1).to (by omega) hq
  have hBx1 := hBw1.trans (hq.mono hBw1.size)
  clear hq hRw1 hBw1
  obtain ⟨gh, hgh⟩ : ∃ g : Nat, x1.heap.size = g := ⟨_, rfl⟩
  have hlw_heap_sizegh : w.heap.size < gh := by rw [← hgh]; exact hRx1.lt (by omega)
  have hlwgh : w.heap.size ≤ gh := by rw [← hgh]; exact hBx1.size
  have hq : Below x1.heap.size x1 (x1.alloc (.cells (arL 8 fun _ => 0).toArray 24)) := (Below.refl _ _).alloc (Nat.le_refl _) _
  have hRx2a := (hRx1).to (by omega) hq
  have hhx2a := Ar.new x1 8 (fun _ => 0) 24
  have hBx2a := hBx1.alloc hBx1.size (.cells (arL 8 fun _ => 0).toArray 24)
  rw [hgh] at hhx2a
  clear hq hRx1 hBx1
  go_upto_region 2 with (first | (refine wpList_store_ar rfl _ _ _ rfl _ _ _ (H) rfl rfl hhx2a (size8n _) ?_; intro x2 hhx2 belx2 sizx2 keex2) | fail)
  have hRx2 := (hRx2a).keep hlw_heap_sizegh belx2
  have hBx2 := hBx2a.trans (belx2.mono hlwgh)
  clear hRx2a hhx2a hBx2a belx2 sizx2 keex2 hgh
  try dsimp only [Act.put]
  go_wp2_with (refine wpList_load_ar rfl _ _ rfl _ _ _ rfl hhx2 Try.arr8n (size8n _) ?_)
  refine (nwhole H _ HB.out).mono ?_
  rintro e x3 ⟨rfl, hq⟩
  have hRx3 := (hRx2).to (by omega) hq
  have hhx3 := (hhx2).to (by omega) hq
  have hBx3 := hBx2.trans (hq.mono hBx2.size)
  clear hq hRx2 hhx2 hBx2
  go_wp2_with (refine wpList_store_ar rfl _ _ _ rfl _ _ _ (noF H) rfl rfl hRx3 (size12n _) ?_; intro w8 hA8 hb8 _ _)
  refine bodyPost_ret_ar2 rfl rfl rfl hA8 Try.arr12n (size12n _) rfl ⟨rfl, ?_⟩
  exact hBx3.trans (hb8.mono (Nat.le_refl _))

set_option maxHeartbeats 1600000 in
theorem nparse (n : Nat → Nat) (w : World) (hn : ∀ j, j < 12 → n j < 256) :
    Calls Try.prog 13 #[.agg (arL 12 n).toArray] w fun e w' => e = .returned (.tuple #[.int .i64 (paD n : Nat), .int .u64 (paX n : Nat), .bool (four n)]) ∧ Below w.heap.size w w' := by
  obtain ⟨kK, hkK⟩ : ∃ k : Array Value, (arL 12 (n)).toArray = k := ⟨_, rfl⟩
  obtain ⟨w1, hw1⟩ : ∃ V : World, V = w.alloc (.cells (arL 12 (n)).toArray 27) := ⟨_, rfl⟩
  have hs1 : w1.heap.size = w.heap.size + 1 := by rw [hw1]; simp
  have hBw1 : Below w.heap.size w w1 := by rw [hw1]; exact (Below.refl _ _).alloc (Nat.le_refl _) _
  have hKw1 : Ar w1 w.heap.size 12 (n) := by rw [hw1]; exact Ar.new w 12 _ _
  have HKK := Lib.hid hkK
  rw [hkK] at hw1
  rw [hkK]
  clear hkK
  have hz8 := zero8n
  have hat := arrayAt8n
  have HN := Lib.hid hn
  obtain ⟨h, hh⟩ : ∃ h : Nat → Nat, (fun j => n (4 + j)) = h := ⟨_, rfl⟩
  have HH := Lib.hid hh
  have HB := Lib.hid (show ∀ j, j < 8 → h j < 256 by rw [← hh]; exact fun j hj => hn (4 + j) (by omega))
  have hsl := slice124 w.heap.size
  clear hn hh
  go_enter Try.func13, Try.ntmps13
  go_upto_region 1 with fail
  rw [← hw1]
  clear hw1
  try simp only [Nat.add_assoc, Nat.reduceAdd]
  clear hs1 
  obtain ⟨gE, hgE⟩ : ∃ g : Nat, w1.heap.size = g := ⟨_, rfl⟩
  have hlE : w.heap.size < gE := by rw [← hgE]; exact hKw1.lt (by omega)
  have hq : Below w1.heap.size w1 (w1.alloc (.cells (arL 8 fun _ => 0).toArray 24)) := (Below.refl _ _).alloc (Nat.le_refl _) _
  have hKa := hKw1.to (by omega) hq
  have hBa := hBw1.alloc hBw1.size (.cells (arL 8 fun _ => 0).toArray 24)
  have hEa := Ar.new w1 8 (fun _ => 0) 24
  rw [hgE] at hEa
  have hKl := hKw1.rangeO 4 8 (by omega)
  rw [HH.out] at hKl
  clear hq hBw1 hKw1
  go_upto_region 2 with (first | (refine wpList_load_mid rfl _ _ rfl w.heap.size 4 rfl (arL 8 h) _ hKl Try.arr8n rfl (size8n _) ?_) | (refine wpList_store_ar rfl _ _ _ rfl _ _ _ h rfl rfl hEa (size8n _) ?_; intro x1 hEx1 belx1 sizx1 keex1) | fail)
  have hKx1 := hKa.keep hlE belx1
  have hBx1 := hBa.trans (belx1.mono (by omega))
  clear hKa hBa hEa hKl belx1 sizx1 keex1 hgE hsl
  try dsimp only [Act.put]
  have hgd := Try.eqgn12
  refine wp_region_noPanic ?_
  by_cases h4 : ∀ j, j < 4 → n j = 0
  · have HF := Lib.hid (show four n = true from four_yes h4)
    have heq := eqn12_true (f := n) (g := noF h) (fun j hj => by rw [← HH.out]; exact (noF_of h4 j hj).symm)
    have HV := Lib.hid (show paD n = hdD (liB 8 h) ∧ paX n = hdX (liB 8 h) by unfold paD paX tlL; rw [HF.out, HH.out, if_pos rfl, if_pos rfl]; exact ⟨rfl, rfl⟩)
    have HP := Lib.hid (ph_eight h)
    clear h4
    refine wp_region_held_drew (S := fun W => Ar W w.heap.size 12 (n) ∧ Ar W gE 8 (h) ∧ Below w.heap.size w W) (by kernel_rfl) ⟨hKx1.drew, hEx1.drew, hBx1.drew⟩ (fun hHeld => ?_)
    clear hKx1 hEx1 hBx1 
    generalize World.drew x1 = qd at *
    refine wpAnyH_take (i := 0) (v := .agg (arL 12 (n)).toArray) rfl (by kernel_rfl) (by kernel_rfl) (by kernel_rfl) (fun _ _ _ h => h) (yieldsIf_load_mid (by rfl) _ _ rfl w.heap.size (0) rfl (arL 12 (n)) _ (fun W hSw => hSw.1.range) Try.arr12n rfl (size12n _)) (by assumption) ?_
    simp only [Act.put, List.setIfInBounds_toArray, List.set_cons_zero, List.set_cons_succ, List.getElem_toArray, List.getElem_cons_zero]
    refine wpAnyH_take (i := 1) (v := .agg (arL 8 (h)).toArray) rfl (by kernel_rfl) (by kernel_rfl) (by kernel_rfl) (fun _ _ _ h => h) (yieldsIf_load_mid (by rfl) _ _ rfl gE (0) rfl (arL 8 (h)) _ (fun W hSw => hSw.2.1.range) Try.arr8n rfl (size8n _)) (by assumption) ?_
    simp only [Act.put, List.setIfInBounds_toArray, List.set_cons_zero, List.set_cons_succ, List.getElem_toArray, List.getElem_cons_zero, List.getElem_cons_succ]
    refine wpAnyH_ready (rs := [2]) (by kernel_rfl) (by simp) ?_
    refine AllReadyH.cons rfl (fun K hK => ?_) AllReadyH.nil
    go_simp
    refine (nwhole h _ HB.out).mono ?_
    rintro e q1 ⟨rfl, hq⟩
    go_wp2_with fail
    refine hK.out _ _ ⟨(hHeld.1).to (by omega) hq, (hHeld.2.1).to (by omega) hq, (hHeld.2.2).trans (hq.mono (hHeld.2.2).size)⟩ (fun hHeld2 => ?_)
    clear hK K hHeld hq
    have hHeld := hHeld2
    clear hHeld2
    try simp only [Act.put, List.setIfInBounds_toArray, List.set_cons_zero, List.set_cons_succ, List.getElem_toArray, List.getElem_cons_zero, List.getElem_cons_succ]
    refine wpAnyH_take (i := 3) (v := ?vq2) rfl (by kernel_rfl) (by kernel_rfl) (by kernel_rfl) (fun _ _ _ h => h) (Or.inl ⟨by rfl, ?hyq2⟩) (by assumption) ?restq2
    case hyq2 =>
      intro W hSw
      go_simp
      try with_reducible rfl
    simp only [Act.put, List.setIfInBounds_toArray, List.set_cons_zero, List.set_cons_succ, List.getElem_toArray, List.getElem_cons_zero, List.getElem_cons_succ]
    refine wpAnyH_done (by kernel_rfl) ?_ _
    refine NoPanic.normal ?_
    have hE9 := hHeld.2.1
    have hB9 := hHeld.2.2
    clear hHeld
    go_upto_region 4 with fail
    have hsl := slice8a gE
    go_wp2_with fail
    refine (nphead (some ⟨gE, 0, none⟩) 8 8 (liB 8 h) _ (Sl.of_fun HB.out (fun j hj => by rw [Nat.zero_add]; exact (hE9 j hj).1) (hE9.lt (by omega))) (by omega) (by simp [maxLen])).mono ?_
    rintro e z ⟨rfl, hq⟩
    have hB8 := hB9.trans (hq.mono hB9.size)
    rw [HP.out.1, HP.out.2.1, HP.out.2.2]
    clear hq hB9 hE9
    go_wp2_with fail
    refine bodyPost_ret (results_ttt rfl rfl rfl rfl) rfl ⟨by rw [HV.out.1, HV.out.2, HF.out]; rfl, hB8⟩
  · have HF := Lib.hid (show four n = false from four_no h4)
    have heq := eqn12_false (f := n) (g := noF h) (fun h9 => h4 (fun j hj => by rw [h9 j (by omega)]; exact noF_four h j hj))
    have HV := Lib.hid (show paD n = 0 ∧ paX n = 0 by unfold paD paX; rw [HF.out, if_neg (by simp), if_neg (by simp)]; exact ⟨rfl, rfl⟩)
    clear h4
    refine wp_region_held_drew (S := fun W => Ar W w.heap.size 12 (n) ∧ Ar W gE 8 (h) ∧ Below w.heap.size w W) (by kernel_rfl) ⟨hKx1.drew, hEx1.drew, hBx1.drew⟩ (fun hHeld => ?_)
    clear hKx1 hEx1 hBx1 
    generalize World.drew x1 = pd at *
    refine wpAnyH_take (i := 0) (v := .agg (arL 12 (n)).toArray) rfl (by kernel_rfl) (by kernel_rfl) (by kernel_rfl) (fun _ _ _ h => h) (yieldsIf_load_mid (by rfl) _ _ rfl w.heap.size (0) rfl (arL 12 (n)) _ (fun W hSw => hSw.1.range) Try.arr12n rfl (size12n _)) (by assumption) ?_
    simp only [Act.put, List.setIfInBounds_toArray, List.set_cons_zero, List.set_cons_succ, List.getElem_toArray, List.getElem_cons_zero]
    refine wpAnyH_take (i := 1) (v := .agg (arL 8 (h)).toArray) rfl (by kernel_rfl) (by kernel_rfl) (by kernel_rfl) (fun _ _ _ h => h) (yieldsIf_load_mid (by rfl) _ _ rfl gE (0) rfl (arL 8 (h)) _ (fun W hSw => hSw.2.1.range) Try.arr8n rfl (size8n _)) (by assumption) ?_
    simp only [Act.put, List.setIfInBounds_toArray, List.set_cons_zero, List.set_cons_succ, List.getElem_toArray, List.getElem_cons_zero, List.getElem_cons_succ]
    refine wpAnyH_ready (rs := [2]) (by kernel_rfl) (by simp) ?_
    refine AllReadyH.cons rfl (fun K hK => ?_) AllReadyH.nil
    go_simp
    refine (nwhole h _ HB.out).mono ?_
    rintro e p1 ⟨rfl, hq⟩
    go_wp2_with fail
    refine hK.out _ _ ⟨(hHeld.1).to (by omega) hq, (hHeld.2.1).to (by omega) hq, (hHeld.2.2).trans (hq.mono (hHeld.2.2).size)⟩ (fun hHeld2 => ?_)
    clear hK K hHeld hq
    have hHeld := hHeld2
    clear hHeld2
    try simp only [Act.put, List.setIfInBounds_toArray, List.set_cons_zero, List.set_cons_succ, List.getElem_toArray, List.getElem_cons_zero, List.getElem_cons_succ]
    refine wpAnyH_take (i := 3) (v := ?vp2) rfl (by kernel_rfl) (by kernel_rfl) (by kernel_rfl) (fun _ _ _ h => h) (Or.inl ⟨by rfl, ?hyp2⟩) (by assumption) ?restp2
    case hyp2 =>
      intro W hSw
      go_simp
      try with_reducible rfl
    simp only [Act.put, List.setIfInBounds_toArray, List.set_cons_zero, List.set_cons_succ, List.getElem_toArray, List.getElem_cons_zero, List.getElem_cons_succ]
    refine wpAnyH_done (by kernel_rfl) ?_ _
    refine NoPanic.normal ?_
    have hE9 := hHeld.2.1
    have hB9 := hHeld.2.2
    clear hHeld
    go_wp2_with fail
    refine bodyPost_ret (results_ttt rfl rfl rfl rfl) rfl ⟨by rw [HV.out.1, HV.out.2, HF.out]; rfl, hB9⟩
end Go.Proofs.Ytbjohffpjfglgaa
