/-
  The walk of the law EchoLatest of layer 20: for any stamps, tick and ticks of holding it returns true, and writes nothing that was there.
-/
import Derived.Test.YtmfmcbghofcafaaEcc
import Derived.Deep.Cut
namespace Go.Proofs.Ytmfmcbghofcafaa
open Go.RowKit
set_option linter.unusedVariables false
set_option linter.unusedSimpArgs false
set_option maxRecDepth 100000

set_option maxHeartbeats 800000 in
theorem klatest (A : Option Addr) (n c : Nat) (H : Nat → Nat) (t x : Nat) (w : World) (h : Hs w w.heap.size A n H) (hF : ∀ j, j < n → H j < 65536) (hnc : n ≤ c) (hcm : c ≤ maxLen) (ht : t < 18446744073709551616) (hx : x < 65536) :
    Calls Try.prog 7 #[.slice A n c, .int .u64 (t : Int), .int .u16 (x : Int)] w fun e w' => e = .returned (.bool true) ∧ Below w.heap.size w w' := by
  by_cases h2 : n < 1
  · have i1 : (n : Int) < 1 := by omega
    clear h2 h hF hnc hcm ht hx
    have hBw : Below w.heap.size w w := Below.refl _ _
    go_enter Try.func7, Try.ntmps7
    go_wp2_with fail
    refine (kawake _).mono ?_
    rintro e x1 ⟨rfl, hq⟩
    have hBx1 := hBw.trans (hq.mono hBw.size)
    clear hq hBw 
    go_wp2_with fail
    refine (kawake _).mono ?_
    rintro e x2 ⟨rfl, hq⟩
    have hBx2 := hBx1.trans (hq.mono hBx1.size)
    clear hq hBx1 
    go_wp2_with fail
    go_ret
    exact ⟨rfl, hBx2⟩
  have i0 : ¬ (n : Int) < 1 := by omega
  have i4 : decide ((n : Int) < 1) = false := decide_eq_false i0
  have hn1 : 1 ≤ n := by omega
  clear h2
  by_cases h2 : n > 100
  · have i1 : (n : Int) > 100 := by omega
    clear h2 h hF hnc hcm ht hx
    have hBw : Below w.heap.size w w := Below.refl _ _
    go_enter Try.func7, Try.ntmps7
    go_wp2_with fail
    refine (kawake _).mono ?_
    rintro e x3 ⟨rfl, hq⟩
    have hBx3 := hBw.trans (hq.mono hBw.size)
    clear hq hBw 
    go_wp2_with fail
    refine (kawake _).mono ?_
    rintro e x4 ⟨rfl, hq⟩
    have hBx4 := hBx3.trans (hq.mono hBx3.size)
    clear hq hBx3 
    go_wp2_with fail
    go_ret
    exact ⟨rfl, hBx4⟩
  have i1 : ¬ (n : Int) > 100 := by omega
  have i3 : decide ((n : Int) > 100) = false := decide_eq_false i1
  have h100 : n ≤ 100 := by omega
  clear h2
  by_cases h2 : t > 4611686018427387904
  · have i1 : (t : Int) > 4611686018427387904 := by omega
    clear h2 h hF hnc hcm ht hx
    have hBw : Below w.heap.size w w := Below.refl _ _
    go_enter Try.func7, Try.ntmps7
    go_wp2_with fail
    refine (kawake _).mono ?_
    rintro e x5 ⟨rfl, hq⟩
    have hBx5 := hBw.trans (hq.mono hBw.size)
    clear hq hBw 
    go_wp2_with fail
    refine (kawake _).mono ?_
    rintro e x6 ⟨rfl, hq⟩
    have hBx6 := hBx5.trans (hq.mono hBx5.size)
    clear hq hBx5 
    go_wp2_with fail
    go_ret
    exact ⟨rfl, hBx6⟩
  have i5 : ¬ (t : Int) > 4611686018427387904 := by omega
  have i6 : decide ((t : Int) > 4611686018427387904) = false := decide_eq_false i5
  have hT2 : t ≤ 4611686018427387904 := by omega
  clear h2
  have HF := Lib.hid hF
  clear hF
  have hBw : Below w.heap.size w w := Below.refl _ _
  go_enter Try.func7, Try.ntmps7
  go_wp2_with fail
  refine (kawake _).mono ?_
  rintro e x7 ⟨rfl, hq⟩
  have hBx7 := hBw.trans (hq.mono hBw.size)
  clear hq hBw 
  go_wp2_with fail
  refine (enew _).mono ?_
  rintro e x8 ⟨g, rfl, hl, hegx8, hq⟩
  have hBx8 := hBx7.trans (hq.mono hBx7.size)
  have hlg : w.heap.size ≤ g := Nat.le_trans hBx7.size hl
  clear hl
  clear hq hBx7 
  go_wp2_with fail
  go_loopw [8] (fun j wr => ∃ (r q S T : Nat) (z : Bool), r ≤ n ∧ j = .int .i64 (r : Int) ∧ Hid (0 < r → z = true ∧ S = H (r - 1) ∧ T = t + (r - 1)) ∧ Ek wr g q S T z ∧ Below w.heap.size w wr) (fun j _ => n - (intOf j).toNat)
  case atStart => exact ⟨0, 0, 0, 0, false, Nat.zero_le _, rfl, Lib.hid (fun e => absurd e (by omega)), hegx8, hBx8⟩
  case round =>
    clear hegx8 hBx8
    obtain ⟨r, q, S, T, z, hr, rfl, H1, heg0, hB0⟩ := hrel
    by_cases hlt : r < n
    · have i2 : (r : Int) < (n : Int) := by omega
      obtain ⟨b, off, rfl, hb, hcell⟩ := h r hlt
      obtain ⟨p, hp⟩ : ∃ p, H r = p := ⟨_, rfl⟩
      rw [hp] at hcell
      have HP := Lib.hid hp
      have hpl := HF.out r hlt
      rw [hp] at hpl
      have HPL := Lib.hid hpl
      clear hp hpl
      have ce := (hB0.cell (p := ⟨b, off + r, none⟩) hb).trans hcell
      obtain ⟨T2, hT3⟩ : ∃ T2, t + r = T2 := ⟨_, rfl⟩
      have a1 : (t : Int) + (r : Int) = (T2 : Int) := by omega
      have HT2 := Lib.hid (show T2 < 18446744073709551616 by omega)
      have HT3 := Lib.hid hT3
      clear hT3
      go_wp2_with fail
      refine (etake g _ _ _ _ p T2 _ heg0 HPL.out HT2.out).mono ?_
      rintro e x9 ⟨q2, rfl, hl, hegx9, hq⟩
      have hBx9 := hB0.trans (hq.on hB0.size (by omega))
      have hlq2 : w.heap.size ≤ q2 := Nat.le_trans hB0.size hl
      clear hl
      clear hq hB0 heg0
      go_wp2_with fail
      go_round
      case rel => exact ⟨r + 1, q2, p, T2, true, by omega, by go_num, Lib.hid (fun _ => ⟨rfl, HP.out.symm, HT3.out.symm⟩), hegx9, hBx9⟩
      case measure => simp [intOf]; omega
    · have i2 : ¬ (r : Int) < (n : Int) := by omega
      obtain rfl : r = n := by omega
      obtain ⟨rfl, e1, e2⟩ := H1.out (by omega)
      obtain ⟨k, hk⟩ : ∃ k, r - 1 = k := ⟨_, rfl⟩
      rw [hk] at e1 e2
      have a1 : (r : Int) - 1 = (k : Int) := by omega
      have a2 : (t : Int) + (k : Int) = (T : Int) := by omega
      have hkr : k < r := by omega
      obtain ⟨b, off, rfl, hb, hcell⟩ := h k hkr
      have hSl := HF.out k hkr
      rw [← e1] at hcell hSl
      obtain ⟨X, hX⟩ : ∃ X, T + x = X := ⟨_, rfl⟩
      have a3 : (T : Int) + (x : Int) = (X : Int) := by omega
      have hTl : T < 9223372036854775808 := by omega
      have hXl : X < 9223372036854775808 := by omega
      have HXL := Lib.hid (show X < 18446744073709551616 by omega)
      have HH := Lib.hid (show hdE T true X = x by show X - T = x; omega)
      obtain ⟨A, hA⟩ : ∃ A, rpE S T true X = A := ⟨_, rfl⟩
      have hA2 : A < 65536 := by rw [← hA]; exact rpE_lt _ _ _ _
      have HA := Lib.hid hA
      have HSL := Lib.hid hSl
      have i7 : (k : Int) < (r : Int) := by omega
      clear e1 e2 hk hX hA
      go_wp2_with fail
      refine (eheld g _ _ _ _ X _ heg0 HXL.out).mono ?_
      rintro e w9 ⟨rfl, hv9⟩
      rw [hv9]
      clear hv9 w9
      rw [show hdE T true X = x from HH.out]
      have hegwr := heg0
      have hBwr := hB0
      clear heg0 hB0
      obtain ⟨dK, hu, hud⟩ := row_of (show (Try.prog.underlying 28).map (·.isRow) = some true by kernel_rfl)
      have HU := Lib.hid hu
      have HUD := Lib.hid hud
      clear hu hud
      have ce := (hBwr.cell (p := ⟨b, off + k, none⟩) hb).trans hcell
      have HWA := Lib.hid (show IntKind.i64.wrap (A : Int) = (A : Int) by rw [IntKind.wrap_i64]; omega)
      have HWX := Lib.hid (show IntKind.u64.wrap (x : Int) = (x : Int) by rw [IntKind.wrap_u64]; omega)
      have HWS := Lib.hid (show IntKind.u64.wrap (X : Int) = (X : Int) by rw [IntKind.wrap_u64]; omega)
      obtain ⟨x10, hy⟩ : ∃ V : World, V = wr.alloc (.cells #[.bool true, .int .i64 (S : Int), .int .u64 (T : Int)] 28) := ⟨_, rfl⟩
      have hq : Below wr.heap.size wr x10 := by rw [hy]; exact (Below.refl _ _).alloc (Nat.le_refl _) _
      have hKx10 : Cx x10 wr.heap.size 3 (kpF true S T) := by rw [hy]; exact Cx.new wr 3 (kpF true S T) _
      have hegx10 := (hegwr).to hq
      have hBx10 := hBwr.trans (hq.mono hBwr.size)
      have hlgk : w.heap.size ≤ wr.heap.size := hBwr.size
      have hltggk : g < wr.heap.size := hegwr.lt
      clear hq hBwr hegwr
      go_upto_region 11 with fail
      rw [← hy]
      clear ce
      clear hy
      obtain ⟨gk, hgk⟩ : ∃ gk : Nat, wr.heap.size = gk := ⟨_, rfl⟩
      rw [hgk] at hKx10 hlgk hltggk
      try simp only [hgk]
      clear hgk
      have hex10 := hegx10
      clear hegx10
      have heyd := hex10.drew
      refine wp_region_held_drew (S := fun W => Cx W gk 3 (kpF true S T) ∧ Below w.heap.size w W) (by kernel_rfl) ⟨hKx10.drew, hBx10.drew⟩ (fun hHeld => ?_)
      clear hKx10 hBx10 hex10
      generalize World.drew x10 = yd at *
      refine wpAnyH_take (i := 0) (v := ?vy1) rfl (by kernel_rfl) (by kernel_rfl) (by kernel_rfl) (fun _ _ _ h => h) (Or.inl ⟨by rfl, ?hyy1⟩) (by assumption) ?resty1
      case hyy1 =>
        intro W hSw
        go_simp
        try with_reducible rfl
      simp only [Act.put, List.setIfInBounds_toArray, List.set_cons_zero, List.set_cons_succ, List.getElem_toArray, List.getElem_cons_zero]
      refine wpAnyH_take (i := 1) (v := ?vy2) rfl (by kernel_rfl) (by kernel_rfl) (by kernel_rfl) (fun _ _ _ h => h) (Or.inl ⟨by rfl, ?hyy2⟩) (by assumption) ?resty2
      case hyy2 =>
        intro W hSw
        go_simp
        try with_reducible rfl
      simp only [Act.put, List.setIfInBounds_toArray, List.set_cons_zero, List.set_cons_succ, List.getElem_toArray, List.getElem_cons_zero, List.getElem_cons_succ]
      refine wpAnyH_take (i := 2) (v := ?vy3) rfl (by kernel_rfl) (by kernel_rfl) (by kernel_rfl) (fun _ _ _ h => h) (Or.inl ⟨by rfl, ?hyy3⟩) (by assumption) ?resty3
      case hyy3 =>
        intro W hSw
        go_simp
        try with_reducible rfl
      simp only [Act.put, List.setIfInBounds_toArray, List.set_cons_zero, List.set_cons_succ, List.getElem_toArray, List.getElem_cons_zero, List.getElem_cons_succ]
      refine wpAnyH_take (i := 3) (v := ?vy4) rfl (by kernel_rfl) (by kernel_rfl) (by kernel_rfl) (fun _ _ _ h => h) (Or.inl ⟨by rfl, ?hyy4⟩) (by assumption) ?resty4
      case hyy4 =>
        intro W hSw
        go_simp
        try with_reducible rfl
      simp only [Act.put, List.setIfInBounds_toArray, List.set_cons_zero, List.set_cons_succ, List.getElem_toArray, List.getElem_cons_zero, List.getElem_cons_succ]
      refine wpAnyH_take (i := 4) (v := ?vy5) rfl (by kernel_rfl) (by kernel_rfl) (by kernel_rfl) (fun _ _ _ h => h) (Or.inl ⟨by rfl, ?hyy5⟩) (by assumption) ?resty5
      case hyy5 =>
        intro W hSw
        have i8 := HWX.out
        go_simp
        try with_reducible rfl
      simp only [Act.put, List.setIfInBounds_toArray, List.set_cons_zero, List.set_cons_succ, List.getElem_toArray, List.getElem_cons_zero, List.getElem_cons_succ]
      refine wpAnyH_take (i := 5) (v := ?vy6) rfl (by kernel_rfl) (by kernel_rfl) (by kernel_rfl) (fun _ _ _ h => h) (Or.inl ⟨by rfl, ?hyy6⟩) (by assumption) ?resty6
      case hyy6 =>
        intro W hSw
        go_simp
        try with_reducible rfl
      simp only [Act.put, List.setIfInBounds_toArray, List.set_cons_zero, List.set_cons_succ, List.getElem_toArray, List.getElem_cons_zero, List.getElem_cons_succ]
      refine wpAnyH_take (i := 6) (v := ?vy7) rfl (by kernel_rfl) (by kernel_rfl) (by kernel_rfl) (fun _ _ _ h => h) (Or.inl ⟨by rfl, ?hyy7⟩) (by assumption) ?resty7
      case hyy7 =>
        intro W hSw
        go_simp
        try with_reducible rfl
      simp only [Act.put, List.setIfInBounds_toArray, List.set_cons_zero, List.set_cons_succ, List.getElem_toArray, List.getElem_cons_zero, List.getElem_cons_succ]
      refine wpAnyH_take (i := 7) (v := ?vy8) rfl (by kernel_rfl) (by kernel_rfl) (by kernel_rfl) (fun _ _ _ h => h) (Or.inl ⟨by rfl, ?hyy8⟩) (by assumption) ?resty8
      case hyy8 =>
        intro W hSw
        go_simp
        try with_reducible rfl
      simp only [Act.put, List.setIfInBounds_toArray, List.set_cons_zero, List.set_cons_succ, List.getElem_toArray, List.getElem_cons_zero, List.getElem_cons_succ]
      refine wpAnyH_take (i := 8) (v := ?vy9) rfl (by kernel_rfl) (by kernel_rfl) (by kernel_rfl) (fun _ _ _ h => h) (Or.inl ⟨by rfl, ?hyy9⟩) (by assumption) ?resty9
      case hyy9 =>
        intro W hSw
        go_simp
        try with_reducible rfl
      simp only [Act.put, List.setIfInBounds_toArray, List.set_cons_zero, List.set_cons_succ, List.getElem_toArray, List.getElem_cons_zero, List.getElem_cons_succ]
      refine wpAnyH_take (i := 9) (v := ?vy10) rfl (by kernel_rfl) (by kernel_rfl) (by kernel_rfl) (fun _ _ _ h => h) (Or.inl ⟨by rfl, ?hyy10⟩) (by assumption) ?resty10
      case hyy10 =>
        intro W hSw
        go_simp
        try with_reducible rfl
      simp only [Act.put, List.setIfInBounds_toArray, List.set_cons_zero, List.set_cons_succ, List.getElem_toArray, List.getElem_cons_zero, List.getElem_cons_succ]
      refine wpAnyH_take (i := 10) (v := ?vy11) rfl (by kernel_rfl) (by kernel_rfl) (by kernel_rfl) (fun _ _ _ h => h) (Or.inl ⟨by rfl, ?hyy11⟩) (by assumption) ?resty11
      case hyy11 =>
        intro W hSw
        go_simp
        try with_reducible rfl
      simp only [Act.put, List.setIfInBounds_toArray, List.set_cons_zero, List.set_cons_succ, List.getElem_toArray, List.getElem_cons_zero, List.getElem_cons_succ]
      refine wpAnyH_take (i := 11) (v := ?vy12) rfl (by kernel_rfl) (by kernel_rfl) (by kernel_rfl) (fun _ _ _ h => h) (Or.inl ⟨by rfl, ?hyy12⟩) (by assumption) ?resty12
      case hyy12 =>
        intro W hSw
        have i8 := HWX.out
        go_simp
        try with_reducible rfl
      simp only [Act.put, List.setIfInBounds_toArray, List.set_cons_zero, List.set_cons_succ, List.getElem_toArray, List.getElem_cons_zero, List.getElem_cons_succ]
      refine wpAnyH_take (i := 12) (v := ?vy13) rfl (by kernel_rfl) (by kernel_rfl) (by kernel_rfl) (fun _ _ _ h => h) (Or.inl ⟨by rfl, ?hyy13⟩) (by assumption) ?resty13
      case hyy13 =>
        intro W hSw
        have i8 := HWS.out
        go_simp
        try with_reducible rfl
      simp only [Act.put, List.setIfInBounds_toArray, List.set_cons_zero, List.set_cons_succ, List.getElem_toArray, List.getElem_cons_zero, List.getElem_cons_succ]
      refine wpAnyH_take (i := 15) (v := .agg ([.bool true, .int .i64 (S : Int), .int .u64 (T : Int)]).toArray) rfl (by kernel_rfl) (by kernel_rfl) (by kernel_rfl) (fun _ _ _ h => h) (yieldsIf_load_mid (by rfl) _ _ rfl gk (0) rfl ([.bool true, .int .i64 (S : Int), .int .u64 (T : Int)]) _ (fun W hSw => kp_range (hSw.1)) HU.out HUD.out (by kernel_rfl)) (by assumption) ?_
      simp only [Act.put, List.setIfInBounds_toArray, List.set_cons_zero, List.set_cons_succ, List.getElem_toArray, List.getElem_cons_zero, List.getElem_cons_succ]
      refine wpAnyH_take (i := 16) (v := ?vy14) rfl (by kernel_rfl) (by kernel_rfl) (by kernel_rfl) (fun _ _ _ h => h) (Or.inl ⟨by rfl, ?hyy14⟩) (by assumption) ?resty14
      case hyy14 =>
        intro W hSw
        go_simp
        try with_reducible rfl
      simp only [Act.put, List.setIfInBounds_toArray, List.set_cons_zero, List.set_cons_succ, List.getElem_toArray, List.getElem_cons_zero, List.getElem_cons_succ]
      refine wpAnyH_take (i := 17) (v := ?vy15) rfl (by kernel_rfl) (by kernel_rfl) (by kernel_rfl) (fun _ _ _ h => h) (Or.inl ⟨by rfl, ?hyy15⟩) (by assumption) ?resty15
      case hyy15 =>
        intro W hSw
        go_simp
        try with_reducible rfl
      simp only [Act.put, List.setIfInBounds_toArray, List.set_cons_zero, List.set_cons_succ, List.getElem_toArray, List.getElem_cons_zero, List.getElem_cons_succ]
      refine wpAnyH_take (i := 18) (v := ?vy16) rfl (by kernel_rfl) (by kernel_rfl) (by kernel_rfl) (fun _ _ _ h => h) (Or.inl ⟨by rfl, ?hyy16⟩) (by assumption) ?resty16
      case hyy16 =>
        intro W hSw
        have i8 := HWX.out
        go_simp
        try with_reducible rfl
      simp only [Act.put, List.setIfInBounds_toArray, List.set_cons_zero, List.set_cons_succ, List.getElem_toArray, List.getElem_cons_zero, List.getElem_cons_succ]
      refine wpAnyH_take (i := 19) (v := ?vy17) rfl (by kernel_rfl) (by kernel_rfl) (by kernel_rfl) (fun _ _ _ h => h) (Or.inl ⟨by rfl, ?hyy17⟩) (by assumption) ?resty17
      case hyy17 =>
        intro W hSw
        have i8 := HWS.out
        go_simp
        try with_reducible rfl
      simp only [Act.put, List.setIfInBounds_toArray, List.set_cons_zero, List.set_cons_succ, List.getElem_toArray, List.getElem_cons_zero, List.getElem_cons_succ]
      refine wpAnyH_ready (rs := [13]) (by kernel_rfl) (by simp) ?_
      refine AllReadyH.cons rfl (fun K hK => ?_) AllReadyH.nil
      go_simp
      refine (ereply g _ _ _ _ X _ heyd HXL.out).mono ?_
      rintro e y18 ⟨rfl, hey18, hq⟩
      rw [HA.out]
      go_wp2_with fail
      refine hK.out _ _ ⟨(hHeld.1).but hq (On.ne (by omega)), (hHeld.2).trans (hq.on (hHeld.2).size (by omega))⟩ (fun hHeld2 => ?_)
      clear hK K hHeld hq heyd
      have hHeld := hHeld2
      clear hHeld2
      try simp only [Act.put, List.setIfInBounds_toArray, List.set_cons_zero, List.set_cons_succ, List.getElem_toArray, List.getElem_cons_zero, List.getElem_cons_succ]
      refine wpAnyH_take (i := 14) (v := ?vy19) rfl (by kernel_rfl) (by kernel_rfl) (by kernel_rfl) (fun _ _ _ h => h) (Or.inl ⟨by rfl, ?hyy19⟩) (by assumption) ?resty19
      case hyy19 =>
        intro W hSw
        have i8 := HWA.out
        go_simp
        try with_reducible rfl
      simp only [Act.put, List.setIfInBounds_toArray, List.set_cons_zero, List.set_cons_succ, List.getElem_toArray, List.getElem_cons_zero, List.getElem_cons_succ]
      refine wpAnyH_ready (rs := [20]) (by kernel_rfl) (by simp) ?_
      refine AllReadyH.cons rfl (fun K hK => ?_) AllReadyH.nil
      go_simp
      refine (rreply true S T X _ HXL.out HSL.out).mono ?_
      rintro e y20 ⟨rfl, hq⟩
      rw [HA.out]
      go_wp2_with fail
      have hey20 := (hey18).to hq
      refine hK.out _ _ ⟨(hHeld.1).to (by omega) hq, (hHeld.2).trans (hq.mono (hHeld.2).size)⟩ (fun hHeld2 => ?_)
      clear hK K hHeld hq hey18
      have hHeld := hHeld2
      clear hHeld2
      try simp only [Act.put, List.setIfInBounds_toArray, List.set_cons_zero, List.set_cons_succ, List.getElem_toArray, List.getElem_cons_zero, List.getElem_cons_succ]
      refine wpAnyH_take (i := 21) (v := ?vy21) rfl (by kernel_rfl) (by kernel_rfl) (by kernel_rfl) (fun _ _ _ h => h) (Or.inl ⟨by rfl, ?hyy21⟩) (by assumption) ?resty21
      case hyy21 =>
        intro W hSw
        go_simp
        try with_reducible rfl
      simp only [Act.put, List.setIfInBounds_toArray, List.set_cons_zero, List.set_cons_succ, List.getElem_toArray, List.getElem_cons_zero, List.getElem_cons_succ]
      refine wpAnyH_take (i := 22) (v := ?vy22) rfl (by kernel_rfl) (by kernel_rfl) (by kernel_rfl) (fun _ _ _ h => h) (Or.inl ⟨by rfl, ?hyy22⟩) (by assumption) ?resty22
      case hyy22 =>
        intro W hSw
        go_simp
        try with_reducible rfl
      simp only [Act.put, List.setIfInBounds_toArray, List.set_cons_zero, List.set_cons_succ, List.getElem_toArray, List.getElem_cons_zero, List.getElem_cons_succ]
      refine wpAnyH_take (i := 23) (v := ?vy23) rfl (by kernel_rfl) (by kernel_rfl) (by kernel_rfl) (fun _ _ _ h => h) (Or.inl ⟨by rfl, ?hyy23⟩) (by assumption) ?resty23
      case hyy23 =>
        intro W hSw
        go_simp
        try with_reducible rfl
      simp only [Act.put, List.setIfInBounds_toArray, List.set_cons_zero, List.set_cons_succ, List.getElem_toArray, List.getElem_cons_zero, List.getElem_cons_succ]
      refine wpAnyH_done (by kernel_rfl) ?_ _
      have hBe := hHeld.2
      clear hHeld
      go_wp2_with fail
      go_ret
      exact ⟨rfl, hBe⟩
end Go.Proofs.Ytmfmcbghofcafaa
