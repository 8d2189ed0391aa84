/-
  The walk of the law NonceApart of layer 15: for any two directions and numbers it returns true, and writes nothing that was there.
-/
import Derived.Test.YtbjohffpjfglgaaNce
import Derived.Test.YtbjohffpjfglgaaArg
import Derived.Deep.RegionHeld3
namespace Go.Proofs.Ytbjohffpjfglgaa
open Go.RowKit
set_option linter.unusedVariables false
set_option maxRecDepth 100000
set_option linter.unusedSimpArgs false

theorem nmk0 (a : Nat) (ha : a < 9223372036854775808) (V : World) : Calls Try.prog 10 #[.int .i64 0, .int .u64 (a : Int)] V fun e w' => e = .returned (.tuple #[.agg (arL 12 (noF (hdF 0 a))).toArray, .bool true]) ∧ Below V.heap.size V w' := by
  have h := nmake 0 a V (by omega) (by omega)
  have e : okN 0 a = true := ok_yes (.inl rfl) ha
  rw [show noZ 0 a = noF (hdF 0 a) by unfold noZ; rw [e]; rfl, e] at h
  exact h
theorem nmk1 (a : Nat) (ha : a < 9223372036854775808) (V : World) : Calls Try.prog 10 #[.int .i64 1, .int .u64 (a : Int)] V fun e w' => e = .returned (.tuple #[.agg (arL 12 (noF (hdF 1 a))).toArray, .bool true]) ∧ Below V.heap.size V w' := by
  have h := nmake 1 a V (by omega) (by omega)
  have e : okN 1 a = true := ok_yes (.inr rfl) ha
  rw [show noZ 1 a = noF (hdF 1 a) by unfold noZ; rw [e]; rfl, e] at h
  exact h
theorem no_apart {d a e b : Nat} (hd : d < 2) (ha : a < 9223372036854775808) (he : e < 2) (hb : b < 9223372036854775808) (h : ¬ (d = e ∧ a = b)) : ¬ ∀ j, j < 12 → noF (hdF d a) j = noF (hdF e b) j := fun h9 => h (hdF_inj hd ha he hb (noF_inj h9))

set_option maxHeartbeats 4000000 in
theorem naparts (d : Bool) (a : Nat) (e : Bool) (b : Nat) (w : World)  (ha : a < 18446744073709551616)  (hb : b < 18446744073709551616) :
    Calls Try.prog 6 #[.bool d, .int .u64 (a : Int), .bool e, .int .u64 (b : Int)] w fun e w' => e = .returned (.bool true) ∧ Below w.heap.size w w' := by
  have hz := zero12n
  have hz8 := zero8n
  have hBw : Below w.heap.size w w := Below.refl _ _
  go_enter Try.func6, Try.ntmps6
  by_cases a63 : 9223372036854775808 ≤ a
  · have i1 : (a : Int) ≥ 9223372036854775808 := by omega
    clear ha hb
    go_wp2_with fail
    refine (nawake _).mono ?_
    rintro e x1 ⟨rfl, hq⟩
    have hBx1 := hBw.trans (hq.mono hBw.size)
    clear hq  hBw
    go_wp2_with fail
    refine (nawake _).mono ?_
    rintro e x2 ⟨rfl, hq⟩
    have hBx2 := hBx1.trans (hq.mono hBx1.size)
    clear hq  hBx1
    go_wp2_with fail
    go_ret
    exact ⟨rfl, hBx2⟩
  by_cases b63 : 9223372036854775808 ≤ b
  · have i0 : decide ((9223372036854775808 : Int) ≤ (a : Int)) = false := decide_eq_false (by omega)
    have i0n : ¬ (9223372036854775808 : Int) ≤ (a : Int) := by omega
    have i1 : (b : Int) ≥ 9223372036854775808 := by omega
    clear ha hb
    go_wp2_with fail
    refine (nawake _).mono ?_
    rintro e x3 ⟨rfl, hq⟩
    have hBx3 := hBw.trans (hq.mono hBw.size)
    clear hq  hBw
    go_wp2_with fail
    refine (nawake _).mono ?_
    rintro e x4 ⟨rfl, hq⟩
    have hBx4 := hBx3.trans (hq.mono hBx3.size)
    clear hq  hBx3
    go_wp2_with fail
    go_ret
    exact ⟨rfl, hBx4⟩
  have i0 : decide ((9223372036854775808 : Int) ≤ (a : Int)) = false := decide_eq_false (by omega)
  have i0n : ¬ (9223372036854775808 : Int) ≤ (a : Int) := by omega
  have i1 : decide ((9223372036854775808 : Int) ≤ (b : Int)) = false := decide_eq_false (by omega)
  have i1n : ¬ (9223372036854775808 : Int) ≤ (b : Int) := by omega
  have ha6 : a < 9223372036854775808 := by omega
  have hb6 : b < 9223372036854775808 := by omega
  clear ha hb a63 b63
  cases d
  · cases e
    · by_cases hab : a = b
      · subst hab
        have HC1 := Lib.hid (nmk0 a ha6)
        have HC2 := Lib.hid (nmk0 a ha6)
        obtain ⟨N1, hN1⟩ : ∃ N, noF (hdF 0 a) = N := ⟨_, rfl⟩
        rw [hN1] at HC1 HC2
        clear hN1
        clear ha6
        go_wp2_with fail
        refine (nawake _).mono ?_
        rintro e x5 ⟨rfl, hq⟩
        have hBx5 := hBw.trans (hq.mono hBw.size)
        clear hq  hBw
        go_wp2_with fail
        refine (HC1.out _).mono ?_
        rintro e x6 ⟨rfl, hq⟩
        have hBx6 := hBx5.trans (hq.mono hBx5.size)
        clear hq  hBx5
        obtain ⟨gm, hgm⟩ : ∃ g : Nat, x6.heap.size = g := ⟨_, rfl⟩
        have hlwgm : w.heap.size ≤ gm := by rw [← hgm]; exact hBx6.size
        have hq : Below x6.heap.size x6 (x6.alloc (.cells (arL 12 fun _ => 0).toArray 27)) := (Below.refl _ _).alloc (Nat.le_refl _) _
        have hmx7a := Ar.new x6 12 (fun _ => 0) 27
        have hBx7a := hBx6.alloc hBx6.size (.cells (arL 12 fun _ => 0).toArray 27)
        rw [hgm] at hmx7a
        clear hq  hBx6
        go_upto_region 10 with (first | (refine wpList_store_ar rfl _ _ _ rfl _ _ _ (N1) rfl rfl hmx7a (size12n _) ?_; intro x7 hmx7 belx7 sizx7 keex7) | fail)
        have hBx7 := hBx7a.trans (belx7.mono hlwgm)
        clear  hmx7a hBx7a belx7 sizx7 keex7 hgm
        try dsimp only [Act.put]
        go_wp2_with fail
        refine (HC2.out _).mono ?_
        rintro e x8 ⟨rfl, hq⟩
        have hmx8 := (hmx7).to (by omega) hq
        have hBx8 := hBx7.trans (hq.mono hBx7.size)
        clear hq hmx7 hBx7
        obtain ⟨gn, hgn⟩ : ∃ g : Nat, x8.heap.size = g := ⟨_, rfl⟩
        have hlgmgn : gm < gn := by rw [← hgn]; exact hmx8.lt (by omega)
        have hlwgn : w.heap.size ≤ gn := by rw [← hgn]; exact hBx8.size
        have hq : Below x8.heap.size x8 (x8.alloc (.cells (arL 12 fun _ => 0).toArray 27)) := (Below.refl _ _).alloc (Nat.le_refl _) _
        have hmx9a := (hmx8).to (by omega) hq
        have hnx9a := Ar.new x8 12 (fun _ => 0) 27
        have hBx9a := hBx8.alloc hBx8.size (.cells (arL 12 fun _ => 0).toArray 27)
        rw [hgn] at hnx9a
        clear hq hmx8 hBx8
        go_upto_region 11 with (first | (refine wpList_store_ar rfl _ _ _ rfl _ _ _ (N1) rfl rfl hnx9a (size12n _) ?_; intro x9 hnx9 belx9 sizx9 keex9) | fail)
        have hmx9 := (hmx9a).keep hlgmgn belx9
        have hBx9 := hBx9a.trans (belx9.mono hlwgn)
        clear hmx9a hnx9a hBx9a belx9 sizx9 keex9 hgn
        try dsimp only [Act.put]
        have heq := eqn12_true (f := N1) (g := N1) (fun _ _ => rfl)
        have hgd := Try.eqgn12
        go_wp2_with (first | (refine wpList_load_ar0W rfl _ _ rfl _ _ _ rfl hmx9 Try.arr12n (size12n _) ?_) | (refine wpList_load_ar0W rfl _ _ rfl _ _ _ rfl hnx9 Try.arr12n (size12n _) ?_))
        go_ret
        exact ⟨rfl, hBx9⟩
      · have HN := Lib.hid (no_apart (d := 0) (e := 0) (by omega) ha6 (by omega) hb6 (by omega))
        have ib : ((a : Int) == (b : Int)) = false := by simp; omega
        have HC1 := Lib.hid (nmk0 a ha6)
        have HC2 := Lib.hid (nmk0 b hb6)
        obtain ⟨N1, hN1⟩ : ∃ N, noF (hdF 0 a) = N := ⟨_, rfl⟩
        obtain ⟨N2, hN2⟩ : ∃ N, noF (hdF 0 b) = N := ⟨_, rfl⟩
        rw [hN1, hN2] at HN
        rw [hN1] at HC1
        rw [hN2] at HC2
        clear hN1 hN2
        clear ha6 hb6
        go_wp2_with fail
        refine (nawake _).mono ?_
        rintro e x10 ⟨rfl, hq⟩
        have hBx10 := hBw.trans (hq.mono hBw.size)
        clear hq  hBw
        go_wp2_with fail
        refine (HC1.out _).mono ?_
        rintro e x11 ⟨rfl, hq⟩
        have hBx11 := hBx10.trans (hq.mono hBx10.size)
        clear hq  hBx10
        obtain ⟨gm, hgm⟩ : ∃ g : Nat, x11.heap.size = g := ⟨_, rfl⟩
        have hlwgm : w.heap.size ≤ gm := by rw [← hgm]; exact hBx11.size
        have hq : Below x11.heap.size x11 (x11.alloc (.cells (arL 12 fun _ => 0).toArray 27)) := (Below.refl _ _).alloc (Nat.le_refl _) _
        have hmx12a := Ar.new x11 12 (fun _ => 0) 27
        have hBx12a := hBx11.alloc hBx11.size (.cells (arL 12 fun _ => 0).toArray 27)
        rw [hgm] at hmx12a
        clear hq  hBx11
        go_upto_region 10 with (first | (refine wpList_store_ar rfl _ _ _ rfl _ _ _ (N1) rfl rfl hmx12a (size12n _) ?_; intro x12 hmx12 belx12 sizx12 keex12) | fail)
        have hBx12 := hBx12a.trans (belx12.mono hlwgm)
        clear  hmx12a hBx12a belx12 sizx12 keex12 hgm
        try dsimp only [Act.put]
        go_wp2_with fail
        refine (HC2.out _).mono ?_
        rintro e x13 ⟨rfl, hq⟩
        have hmx13 := (hmx12).to (by omega) hq
        have hBx13 := hBx12.trans (hq.mono hBx12.size)
        clear hq hmx12 hBx12
        obtain ⟨gn, hgn⟩ : ∃ g : Nat, x13.heap.size = g := ⟨_, rfl⟩
        have hlgmgn : gm < gn := by rw [← hgn]; exact hmx13.lt (by omega)
        have hlwgn : w.heap.size ≤ gn := by rw [← hgn]; exact hBx13.size
        have hq : Below x13.heap.size x13 (x13.alloc (.cells (arL 12 fun _ => 0).toArray 27)) := (Below.refl _ _).alloc (Nat.le_refl _) _
        have hmx14a := (hmx13).to (by omega) hq
        have hnx14a := Ar.new x13 12 (fun _ => 0) 27
        have hBx14a := hBx13.alloc hBx13.size (.cells (arL 12 fun _ => 0).toArray 27)
        rw [hgn] at hnx14a
        clear hq hmx13 hBx13
        go_upto_region 11 with (first | (refine wpList_store_ar rfl _ _ _ rfl _ _ _ (N2) rfl rfl hnx14a (size12n _) ?_; intro x14 hnx14 belx14 sizx14 keex14) | fail)
        have hmx14 := (hmx14a).keep hlgmgn belx14
        have hBx14 := hBx14a.trans (belx14.mono hlwgn)
        clear hmx14a hnx14a hBx14a belx14 sizx14 keex14 hgn
        try dsimp only [Act.put]
        have heq := eqn12_false HN.out
        have hgd := Try.eqgn12
        go_wp2_with (first | (refine wpList_load_ar0W rfl _ _ rfl _ _ _ rfl hmx14 Try.arr12n (size12n _) ?_) | (refine wpList_load_ar0W rfl _ _ rfl _ _ _ rfl hnx14 Try.arr12n (size12n _) ?_))
        go_ret
        exact ⟨rfl, hBx14⟩
    · · have HN := Lib.hid (no_apart (d := 0) (e := 1) (by omega) ha6 (by omega) hb6 (by omega))
        have HC1 := Lib.hid (nmk0 a ha6)
        have HC2 := Lib.hid (nmk1 b hb6)
        obtain ⟨N1, hN1⟩ : ∃ N, noF (hdF 0 a) = N := ⟨_, rfl⟩
        obtain ⟨N2, hN2⟩ : ∃ N, noF (hdF 1 b) = N := ⟨_, rfl⟩
        rw [hN1, hN2] at HN
        rw [hN1] at HC1
        rw [hN2] at HC2
        clear hN1 hN2
        clear ha6 hb6
        go_wp2_with fail
        refine (nawake _).mono ?_
        rintro e x15 ⟨rfl, hq⟩
        have hBx15 := hBw.trans (hq.mono hBw.size)
        clear hq  hBw
        go_wp2_with fail
        refine (HC1.out _).mono ?_
        rintro e x16 ⟨rfl, hq⟩
        have hBx16 := hBx15.trans (hq.mono hBx15.size)
        clear hq  hBx15
        obtain ⟨gm, hgm⟩ : ∃ g : Nat, x16.heap.size = g := ⟨_, rfl⟩
        have hlwgm : w.heap.size ≤ gm := by rw [← hgm]; exact hBx16.size
        have hq : Below x16.heap.size x16 (x16.alloc (.cells (arL 12 fun _ => 0).toArray 27)) := (Below.refl _ _).alloc (Nat.le_refl _) _
        have hmx17a := Ar.new x16 12 (fun _ => 0) 27
        have hBx17a := hBx16.alloc hBx16.size (.cells (arL 12 fun _ => 0).toArray 27)
        rw [hgm] at hmx17a
        clear hq  hBx16
        go_upto_region 10 with (first | (refine wpList_store_ar rfl _ _ _ rfl _ _ _ (N1) rfl rfl hmx17a (size12n _) ?_; intro x17 hmx17 belx17 sizx17 keex17) | fail)
        have hBx17 := hBx17a.trans (belx17.mono hlwgm)
        clear  hmx17a hBx17a belx17 sizx17 keex17 hgm
        try dsimp only [Act.put]
        go_wp2_with fail
        refine (HC2.out _).mono ?_
        rintro e x18 ⟨rfl, hq⟩
        have hmx18 := (hmx17).to (by omega) hq
        have hBx18 := hBx17.trans (hq.mono hBx17.size)
        clear hq hmx17 hBx17
        obtain ⟨gn, hgn⟩ : ∃ g : Nat, x18.heap.size = g := ⟨_, rfl⟩
        have hlgmgn : gm < gn := by rw [← hgn]; exact hmx18.lt (by omega)
        have hlwgn : w.heap.size ≤ gn := by rw [← hgn]; exact hBx18.size
        have hq : Below x18.heap.size x18 (x18.alloc (.cells (arL 12 fun _ => 0).toArray 27)) := (Below.refl _ _).alloc (Nat.le_refl _) _
        have hmx19a := (hmx18).to (by omega) hq
        have hnx19a := Ar.new x18 12 (fun _ => 0) 27
        have hBx19a := hBx18.alloc hBx18.size (.cells (arL 12 fun _ => 0).toArray 27)
        rw [hgn] at hnx19a
        clear hq hmx18 hBx18
        go_upto_region 11 with (first | (refine wpList_store_ar rfl _ _ _ rfl _ _ _ (N2) rfl rfl hnx19a (size12n _) ?_; intro x19 hnx19 belx19 sizx19 keex19) | fail)
        have hmx19 := (hmx19a).keep hlgmgn belx19
        have hBx19 := hBx19a.trans (belx19.mono hlwgn)
        clear hmx19a hnx19a hBx19a belx19 sizx19 keex19 hgn
        try dsimp only [Act.put]
        have heq := eqn12_false HN.out
        have hgd := Try.eqgn12
        go_wp2_with (first | (refine wpList_load_ar0W rfl _ _ rfl _ _ _ rfl hmx19 Try.arr12n (size12n _) ?_) | (refine wpList_load_ar0W rfl _ _ rfl _ _ _ rfl hnx19 Try.arr12n (size12n _) ?_))
        go_ret
        exact ⟨rfl, hBx19⟩
  · cases e
    · · have HN := Lib.hid (no_apart (d := 1) (e := 0) (by omega) ha6 (by omega) hb6 (by omega))
        have HC1 := Lib.hid (nmk1 a ha6)
        have HC2 := Lib.hid (nmk0 b hb6)
        obtain ⟨N1, hN1⟩ : ∃ N, noF (hdF 1 a) = N := ⟨_, rfl⟩
        obtain ⟨N2, hN2⟩ : ∃ N, noF (hdF 0 b) = N := ⟨_, rfl⟩
        rw [hN1, hN2] at HN
        rw [hN1] at HC1
        rw [hN2] at HC2
        clear hN1 hN2
        clear ha6 hb6
        go_wp2_with fail
        refine (nawake _).mono ?_
        rintro e x20 ⟨rfl, hq⟩
        have hBx20 := hBw.trans (hq.mono hBw.size)
        clear hq  hBw
        go_wp2_with fail
        refine (HC1.out _).mono ?_
        rintro e x21 ⟨rfl, hq⟩
        have hBx21 := hBx20.trans (hq.mono hBx20.size)
        clear hq  hBx20
        obtain ⟨gm, hgm⟩ : ∃ g : Nat, x21.heap.size = g := ⟨_, rfl⟩
        have hlwgm : w.heap.size ≤ gm := by rw [← hgm]; exact hBx21.size
        have hq : Below x21.heap.size x21 (x21.alloc (.cells (arL 12 fun _ => 0).toArray 27)) := (Below.refl _ _).alloc (Nat.le_refl _) _
        have hmx22a := Ar.new x21 12 (fun _ => 0) 27
        have hBx22a := hBx21.alloc hBx21.size (.cells (arL 12 fun _ => 0).toArray 27)
        rw [hgm] at hmx22a
        clear hq  hBx21
        go_upto_region 10 with (first | (refine wpList_store_ar rfl _ _ _ rfl _ _ _ (N1) rfl rfl hmx22a (size12n _) ?_; intro x22 hmx22 belx22 sizx22 keex22) | fail)
        have hBx22 := hBx22a.trans (belx22.mono hlwgm)
        clear  hmx22a hBx22a belx22 sizx22 keex22 hgm
        try dsimp only [Act.put]
        go_wp2_with fail
        refine (HC2.out _).mono ?_
        rintro e x23 ⟨rfl, hq⟩
        have hmx23 := (hmx22).to (by omega) hq
        have hBx23 := hBx22.trans (hq.mono hBx22.size)
        clear hq hmx22 hBx22
        obtain ⟨gn, hgn⟩ : ∃ g : Nat, x23.heap.size = g := ⟨_, rfl⟩
        have hlgmgn : gm < gn := by rw [← hgn]; exact hmx23.lt (by omega)
        have hlwgn : w.heap.size ≤ gn := by rw [← hgn]; exact hBx23.size
        have hq : Below x23.heap.size x23 (x23.alloc (.cells (arL 12 fun _ => 0).toArray 27)) := (Below.refl _ _).alloc (Nat.le_refl _) _
        have hmx24a := (hmx23).to (by omega) hq
        have hnx24a := Ar.new x23 12 (fun _ => 0) 27
        have hBx24a := hBx23.alloc hBx23.size (.cells (arL 12 fun _ => 0).toArray 27)
        rw [hgn] at hnx24a
        clear hq hmx23 hBx23
        go_upto_region 11 with (first | (refine wpList_store_ar rfl _ _ _ rfl _ _ _ (N2) rfl rfl hnx24a (size12n _) ?_; intro x24 hnx24 belx24 sizx24 keex24) | fail)
        have hmx24 := (hmx24a).keep hlgmgn belx24
        have hBx24 := hBx24a.trans (belx24.mono hlwgn)
        clear hmx24a hnx24a hBx24a belx24 sizx24 keex24 hgn
        try dsimp only [Act.put]
        have heq := eqn12_false HN.out
        have hgd := Try.eqgn12
        go_wp2_with (first | (refine wpList_load_ar0W rfl _ _ rfl _ _ _ rfl hmx24 Try.arr12n (size12n _) ?_) | (refine wpList_load_ar0W rfl _ _ rfl _ _ _ rfl hnx24 Try.arr12n (size12n _) ?_))
        go_ret
        exact ⟨rfl, hBx24⟩
    · by_cases hab : a = b
      · subst hab
        have HC1 := Lib.hid (nmk1 a ha6)
        have HC2 := Lib.hid (nmk1 a ha6)
        obtain ⟨N1, hN1⟩ : ∃ N, noF (hdF 1 a) = N := ⟨_, rfl⟩
        rw [hN1] at HC1 HC2
        clear hN1
        clear ha6
        go_wp2_with fail
        refine (nawake _).mono ?_
        rintro e x25 ⟨rfl, hq⟩
        have hBx25 := hBw.trans (hq.mono hBw.size)
        clear hq  hBw
        go_wp2_with fail
        refine (HC1.out _).mono ?_
        rintro e x26 ⟨rfl, hq⟩
        have hBx26 := hBx25.trans (hq.mono hBx25.size)
        clear hq  hBx25
        obtain ⟨gm, hgm⟩ : ∃ g : Nat, x26.heap.size = g := ⟨_, rfl⟩
        have hlwgm : w.heap.size ≤ gm := by rw [← hgm]; exact hBx26.size
        have hq : Below x26.heap.size x26 (x26.alloc (.cells (arL 12 fun _ => 0).toArray 27)) := (Below.refl _ _).alloc (Nat.le_refl _) _
        have hmx27a := Ar.new x26 12 (fun _ => 0) 27
        have hBx27a := hBx26.alloc hBx26.size (.cells (arL 12 fun _ => 0).toArray 27)
        rw [hgm] at hmx27a
        clear hq  hBx26
        go_upto_region 10 with (first | (refine wpList_store_ar rfl _ _ _ rfl _ _ _ (N1) rfl rfl hmx27a (size12n _) ?_; intro x27 hmx27 belx27 sizx27 keex27) | fail)
        have hBx27 := hBx27a.trans (belx27.mono hlwgm)
        clear  hmx27a hBx27a belx27 sizx27 keex27 hgm
        try dsimp only [Act.put]
        go_wp2_with fail
        refine (HC2.out _).mono ?_
        rintro e x28 ⟨rfl, hq⟩
        have hmx28 := (hmx27).to (by omega) hq
        have hBx28 := hBx27.trans (hq.mono hBx27.size)
        clear hq hmx27 hBx27
        obtain ⟨gn, hgn⟩ : ∃ g : Nat, x28.heap.size = g := ⟨_, rfl⟩
        have hlgmgn : gm < gn := by rw [← hgn]; exact hmx28.lt (by omega)
        have hlwgn : w.heap.size ≤ gn := by rw [← hgn]; exact hBx28.size
        have hq : Below x28.heap.size x28 (x28.alloc (.cells (arL 12 fun _ => 0).toArray 27)) := (Below.refl _ _).alloc (Nat.le_refl _) _
        have hmx29a := (hmx28).to (by omega) hq
        have hnx29a := Ar.new x28 12 (fun _ => 0) 27
        have hBx29a := hBx28.alloc hBx28.size (.cells (arL 12 fun _ => 0).toArray 27)
        rw [hgn] at hnx29a
        clear hq hmx28 hBx28
        go_upto_region 11 with (first | (refine wpList_store_ar rfl _ _ _ rfl _ _ _ (N1) rfl rfl hnx29a (size12n _) ?_; intro x29 hnx29 belx29 sizx29 keex29) | fail)
        have hmx29 := (hmx29a).keep hlgmgn belx29
        have hBx29 := hBx29a.trans (belx29.mono hlwgn)
        clear hmx29a hnx29a hBx29a belx29 sizx29 keex29 hgn
        try dsimp only [Act.put]
        have heq := eqn12_true (f := N1) (g := N1) (fun _ _ => rfl)
        have hgd := Try.eqgn12
        go_wp2_with (first | (refine wpList_load_ar0W rfl _ _ rfl _ _ _ rfl hmx29 Try.arr12n (size12n _) ?_) | (refine wpList_load_ar0W rfl _ _ rfl _ _ _ rfl hnx29 Try.arr12n (size12n _) ?_))
        go_ret
        exact ⟨rfl, hBx29⟩
      · have HN := Lib.hid (no_apart (d := 1) (e := 1) (by omega) ha6 (by omega) hb6 (by omega))
        have ib : ((a : Int) == (b : Int)) = false := by simp; omega
        have HC1 := Lib.hid (nmk1 a ha6)
        have HC2 := Lib.hid (nmk1 b hb6)
        obtain ⟨N1, hN1⟩ : ∃ N, noF (hdF 1 a) = N := ⟨_, rfl⟩
        obtain ⟨N2, hN2⟩ : ∃ N, noF (hdF 1 b) = N := ⟨_, rfl⟩
        rw [hN1, hN2] at HN
        rw [hN1] at HC1
        rw [hN2] at HC2
        clear hN1 hN2
        clear ha6 hb6
        go_wp2_with fail
        refine (nawake _).mono ?_
        rintro e x30 ⟨rfl, hq⟩
        have hBx30 := hBw.trans (hq.mono hBw.size)
        clear hq  hBw
        go_wp2_with fail
        refine (HC1.out _).mono ?_
        rintro e x31 ⟨rfl, hq⟩
        have hBx31 := hBx30.trans (hq.mono hBx30.size)
        clear hq  hBx30
        obtain ⟨gm, hgm⟩ : ∃ g : Nat, x31.heap.size = g := ⟨_, rfl⟩
        have hlwgm : w.heap.size ≤ gm := by rw [← hgm]; exact hBx31.size
        have hq : Below x31.heap.size x31 (x31.alloc (.cells (arL 12 fun _ => 0).toArray 27)) := (Below.refl _ _).alloc (Nat.le_refl _) _
        have hmx32a := Ar.new x31 12 (fun _ => 0) 27
        have hBx32a := hBx31.alloc hBx31.size (.cells (arL 12 fun _ => 0).toArray 27)
        rw [hgm] at hmx32a
        clear hq  hBx31
        go_upto_region 10 with (first | (refine wpList_store_ar rfl _ _ _ rfl _ _ _ (N1) rfl rfl hmx32a (size12n _) ?_; intro x32 hmx32 belx32 sizx32 keex32) | fail)
        have hBx32 := hBx32a.trans (belx32.mono hlwgm)
        clear  hmx32a hBx32a belx32 sizx32 keex32 hgm
        try dsimp only [Act.put]
        go_wp2_with fail
        refine (HC2.out _).mono ?_
        rintro e x33 ⟨rfl, hq⟩
        have hmx33 := (hmx32).to (by omega) hq
        have hBx33 := hBx32.trans (hq.mono hBx32.size)
        clear hq hmx32 hBx32
        obtain ⟨gn, hgn⟩ : ∃ g : Nat, x33.heap.size = g := ⟨_, rfl⟩
        have hlgmgn : gm < gn := by rw [← hgn]; exact hmx33.lt (by omega)
        have hlwgn : w.heap.size ≤ gn := by rw [← hgn]; exact hBx33.size
        have hq : Below x33.heap.size x33 (x33.alloc (.cells (arL 12 fun _ => 0).toArray 27)) := (Below.refl _ _).alloc (Nat.le_refl _) _
        have hmx34a := (hmx33).to (by omega) hq
        have hnx34a := Ar.new x33 12 (fun _ => 0) 27
        have hBx34a := hBx33.alloc hBx33.size (.cells (arL 12 fun _ => 0).toArray 27)
        rw [hgn] at hnx34a
        clear hq hmx33 hBx33
        go_upto_region 11 with (first | (refine wpList_store_ar rfl _ _ _ rfl _ _ _ (N2) rfl rfl hnx34a (size12n _) ?_; intro x34 hnx34 belx34 sizx34 keex34) | fail)
        have hmx34 := (hmx34a).keep hlgmgn belx34
        have hBx34 := hBx34a.trans (belx34.mono hlwgn)
        clear hmx34a hnx34a hBx34a belx34 sizx34 keex34 hgn
        try dsimp only [Act.put]
        have heq := eqn12_false HN.out
        have hgd := Try.eqgn12
        go_wp2_with (first | (refine wpList_load_ar0W rfl _ _ rfl _ _ _ rfl hmx34 Try.arr12n (size12n _) ?_) | (refine wpList_load_ar0W rfl _ _ rfl _ _ _ rfl hnx34 Try.arr12n (size12n _) ?_))
        go_ret
        exact ⟨rfl, hBx34⟩
end Go.Proofs.Ytbjohffpjfglgaa
