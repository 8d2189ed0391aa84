/-
  The walk of the law FilterMatchesReference of layer 19: for any numbers it returns true, and writes nothing that was there.
-/
import Derived.Test.YtoeifogkfookiaaFtc
namespace Go.Proofs.Ytoeifogkfookiaa
open Go.RowKit
set_option linter.unusedVariables false
set_option linter.unusedSimpArgs false
set_option maxRecDepth 100000
theorem infoU64 : (Try.prog.info? 23).map (fun i => (i.zero, i.size, i.bytes)) = some (some (.int .u64 0), 1, 8) := by kernel_rfl

set_option maxHeartbeats 4000000 in
theorem fmatches (A : Option Addr) (n c : Nat) (F : Nat → Nat) (p : Nat) (w : World) (h : Us w w.heap.size A n F) (hnc : n ≤ c) (hcm : c ≤ maxLen) (hp : p < 18446744073709551616) :
    Calls Try.prog 3 #[.slice A n c, .int .u64 (p : Int)] w fun e w' => e = .returned (.bool true) ∧ Below w.heap.size w w' := by
  obtain ⟨i0, hi0, hz0, hz1, hz2⟩ := info_parts infoU64
  have HI0 := Lib.hid hi0
  have HZ0 := Lib.hid hz0
  have HZ1 := Lib.hid hz1
  have HZ2 := Lib.hid hz2
  clear hi0 hz0 hz1 hz2
  by_cases h2 : n > 100
  · have i1 : (n : Int) > 100 := by omega
    clear h2 h hnc hcm
    have hBw : Below w.heap.size w w := Below.refl _ _
    go_enter Try.func3, Try.ntmps3
    go_wp2_with fail
    refine (fawake _).mono ?_
    rintro e x1 ⟨rfl, hq⟩
    have hBx1 := hBw.trans (hq.mono hBw.size)
    clear hq hBw 
    go_wp2_with fail
    refine (fawake _).mono ?_
    rintro e x2 ⟨rfl, hq⟩
    have hBx2 := hBx1.trans (hq.mono hBx1.size)
    clear hq hBx1 
    go_wp2_with fail
    go_ret
    exact ⟨rfl, hBx2⟩
  have i1 : ¬ (n : Int) > 100 := by omega
  have i3 : decide ((n : Int) > 100) = false := decide_eq_false i1
  have h100 : n ≤ 100 := by omega
  clear h2
  have hBw : Below w.heap.size w w := Below.refl _ _
  go_enter Try.func3, Try.ntmps3
  go_wp2_with fail
  refine (fawake _).mono ?_
  rintro e x3 ⟨rfl, hq⟩
  have hBx3 := hBw.trans (hq.mono hBw.size)
  clear hq hBw 
  go_wp2_with fail
  refine (fnew _).mono ?_
  rintro e x4 ⟨g, rfl, hl, hcgx4, hq⟩
  have hBx4 := hBx3.trans (hq.mono hBx3.size)
  have hlg : w.heap.size ≤ g := Nat.le_trans hBx3.size hl
  clear hl
  clear hq hBx3 
  go_wp2_with fail
  go_loopw [6, 7] (fun v j wr => ∃ (r m y L c2 : Nat) (z : Bool) (A2 : Option Addr) (G : Nat → Nat), r ≤ n ∧ v = .slice A2 m c2 ∧ j = .int .i64 (r : Int) ∧ m + y = r ∧ Up G m L z ∧ Fi wr g m y L z ∧ World.ownsRow wr (g + 1) 23 1 (.slice A2 (m) c2) (m) (unL (m) (G)) ∧ Below w.heap.size w wr) (fun v j _ => n - (intOf j).toNat)
  case atStart => exact ⟨0, 0, 0, 0, 0, false, none, fun _ => 0, Nat.zero_le _, rfl, rfl, rfl, Up.start _, hcgx4, World.ownsRow_nil _ _ _ _, hBx4⟩
  case round =>
    clear hcgx4 hBx4
    obtain ⟨r, m, y, L, c2, z, A2, G, hr, rfl, rfl, hmy, hup, hcg0, ho0, hB0⟩ := hrel
    have HUP := Lib.hid hup
    clear hup
    by_cases hlt : r < n
    · have i2 : (r : Int) < (n : Int) := by omega
      obtain ⟨b, off, rfl, hb, hcell⟩ := h r hlt
      obtain ⟨q, hq⟩ : ∃ q, F r = q := ⟨_, rfl⟩
      rw [hq] at hcell
      have HQ := Lib.hid hq
      clear hq
      have ce := (hB0.cell (p := ⟨b, off + r, none⟩) hb).trans hcell
      have hm1 : m ≤ 1000 := by omega
      obtain ⟨V, hV⟩ : ∃ V, frF L z p = V := ⟨_, rfl⟩
      have HV := Lib.hid hV
      have HRP := Lib.hid ((HUP.out.fresh p).trans hV)
      have HRC := Lib.hid (HUP.out.code q)
      clear hV
      by_cases hC : frF L z q = true
      · have HC := Lib.hid hC
        clear hC
        go_wp2_with fail
        refine (rcode A2 m c2 _ G q _ (Us.of_own ho0) hm1).mono ?_
        rintro e w9 ⟨rfl, hv9⟩
        rw [hv9]
        clear hv9 w9
        rw [HRC.out, HC.out, if_pos rfl]
        go_wp2_with fail
        refine (ffresh g _ _ _ _ q _ hcg0).mono ?_
        rintro e w9 ⟨rfl, hv9⟩
        rw [hv9]
        clear hv9 w9
        rw [show frF L z q = true from HC.out]
        go_wp2_with fail
        refine (ffresh g _ _ _ _ p _ hcg0).mono ?_
        rintro e w9 ⟨rfl, hv9⟩
        rw [hv9]
        clear hv9 w9
        rw [show frF L z p = V from HV.out]
        go_wp2_with fail
        refine (rfresh A2 m c2 _ G p _ (Us.of_own ho0) hm1).mono ?_
        rintro e w9 ⟨rfl, hv9⟩
        rw [hv9]
        clear hv9 w9
        rw [show rfF G m p = V from HRP.out]
        go_wp2_with fail
        refine (facceptY g _ _ _ _ q _ hcg0 (by omega) HC.out).mono ?_
        rintro e x5 ⟨rfl, hcgx5, hq⟩
        have hox5 := own_but ho0 hq (by omega)
        have hBx5 := hB0.trans (hq.on hB0.size (by omega))
        clear hq hB0 hcg0 ho0
        go_wp2_with fail
        refine (told19 0 0 _).mono ?_
        rintro e w9 ⟨rfl, hv9⟩
        rw [hv9]
        clear hv9 w9
        rw [decide_eq_true rfl]
        clear ce
        have ce := (hBx5.cell (p := ⟨b, off + r, none⟩) hb).trans hcell
        have hlg2 : g < x5.heap.size := hcgx5.lt
        have HLG := Lib.hid hlg2
        clear hlg2
        have HM1 := Lib.hid hm1
        go_wp2_with (at_builtin; refine wpList_append_own _ rfl _ _ 22 rfl (g + 1) 23 i0 (.int .u64 0) 1 8 Try.underlying22 HI0.out HZ0.out HZ1.out HZ2.out rfl (by decide) _ _ _ rfl (hox5.alloc _) ⟨x5.heap.size, 0, none⟩ 1 1 [.int .u64 (q : Int)] rfl rfl ?c1 ?c2 ?c3 ?c4 ?c5 ?_)
        case c1 =>
          intro j u hj
          match j, hj with
          | 0, hj => simp at hj; subst hj; simp [Addr.add]
        case c2 => intro u hu; simp at hu; subst hu; rfl
        case c3 => have := HM1.out; unfold maxLen; omega
        case c4 => have := HM1.out; omega
        case c5 => have := HLG.out; simp; omega
        intro v2 y2 hown2 hgrow _
        obtain ⟨A3, c3, rfl⟩ := own_shape hown2
        have hk : Below (g + 1) x5 y2 := ((Below.refl _ _).alloc (by have := HLG.out; omega) _).grown hgrow (by have := HLG.out; simp; omega) (fun g0 hg0 => own_blk hox5 hg0)
        have hcgy2 := hcgx5.keep (by omega) hk
        have hBy2 := hBx5.trans (hk.mono (by omega))
        rw [← unL_put] at hown2
        have HUP2 := Lib.hid (HUP.out.next HC.out)
        obtain ⟨G2, hG2⟩ : ∃ G2, unP G m q = G2 := ⟨_, rfl⟩
        have hGm : G2 m = q := by rw [← hG2]; exact unP_same G m q
        rw [hG2] at hown2 HUP2
        have hoy2 := hown2
        clear hown2 hgrow hk hcgx5 hBx5 hox5 hG2 ce
        obtain ⟨g3, o3, hA3, hg3, hc3⟩ := Us.of_own hoy2 m (by omega)
        rw [hGm] at hc3
        subst hA3
        go_wp2_with fail
        refine (flast g _ _ _ _ _ hcgy2).mono ?_
        rintro e x6 ⟨rfl, hq⟩
        have hcgx6 := (hcgy2).to hq
        have hox6 := own_to hoy2 hq
        have hBx6 := hBy2.trans (hq.mono hBy2.size)
        clear hq hBy2 hcgy2 hoy2
        go_wp2_with fail
        refine (fcounts g _ _ _ _ _ hcgx6).mono ?_
        rintro e x7 ⟨rfl, hq⟩
        have hcgx7 := (hcgx6).to hq
        have hox7 := own_to hox6 hq
        have hBx7 := hBx6.trans (hq.mono hBx6.size)
        clear hq hBx6 hcgx6 hox6
        have hc4 : x7.cell? ⟨g3, o3 + m, none⟩ = some (.int .u64 (q : Int)) := by
          obtain ⟨g5, o5, e5, _, h5⟩ := Us.of_own hox7 m (by omega)
          injection e5 with e5
          injection e5 with e6 e7 e8
          subst e6 e7
          rw [hGm] at h5
          exact h5
        clear hc3 hg3
        go_wp2_with fail
        go_round
        case rel => exact ⟨r + 1, m + 1, y, q, c3, true, _, G2, by omega, rfl, by first | rfl | go_num, by omega, HUP2.out, hcgx7, hox7, hBx7⟩
        case measure => simp [intOf]; omega
      · have hC0 : frF L z q = false := by simpa using hC
        have HC := Lib.hid hC0
        clear hC hC0
        obtain ⟨K, hK⟩ : ∃ K, noF q = K := ⟨_, rfl⟩
        have hK0 : K ≠ 0 := by rw [← hK]; exact noF_ne q
        have HK := Lib.hid hK
        have j1 : ((K : Int) == 0) = false := by simp [hK0]
        clear hK
        go_wp2_with fail
        refine (rcode A2 m c2 _ G q _ (Us.of_own ho0) hm1).mono ?_
        rintro e w9 ⟨rfl, hv9⟩
        rw [hv9]
        clear hv9 w9
        rw [HRC.out, HC.out, if_neg (by decide), HK.out]
        go_wp2_with fail
        refine (ffresh g _ _ _ _ q _ hcg0).mono ?_
        rintro e w9 ⟨rfl, hv9⟩
        rw [hv9]
        clear hv9 w9
        rw [show frF L z q = false from HC.out]
        go_wp2_with fail
        refine (ffresh g _ _ _ _ p _ hcg0).mono ?_
        rintro e w9 ⟨rfl, hv9⟩
        rw [hv9]
        clear hv9 w9
        rw [show frF L z p = V from HV.out]
        go_wp2_with fail
        refine (rfresh A2 m c2 _ G p _ (Us.of_own ho0) hm1).mono ?_
        rintro e w9 ⟨rfl, hv9⟩
        rw [hv9]
        clear hv9 w9
        rw [show rfF G m p = V from HRP.out]
        go_wp2_with fail
        refine (facceptN g _ _ _ _ q _ hcg0 (by omega) HC.out).mono ?_
        rintro e x8 ⟨rfl, hcgx8, hq⟩
        have hox8 := own_but ho0 hq (by omega)
        have hBx8 := hB0.trans (hq.on hB0.size (by omega))
        clear hq hB0 hcg0 ho0
        rw [HK.out]
        go_wp2_with fail
        refine (told19 K K _).mono ?_
        rintro e w9 ⟨rfl, hv9⟩
        rw [hv9]
        clear hv9 w9
        rw [decide_eq_true rfl]
        clear ce
        go_wp2_with fail
        refine (flast g _ _ _ _ _ hcgx8).mono ?_
        rintro e x9 ⟨rfl, hq⟩
        have hcgx9 := (hcgx8).to hq
        have hox9 := own_to hox8 hq
        have hBx9 := hBx8.trans (hq.mono hBx8.size)
        clear hq hBx8 hcgx8 hox8
        go_wp2_with fail
        refine (fcounts g _ _ _ _ _ hcgx9).mono ?_
        rintro e x10 ⟨rfl, hq⟩
        have hcgx10 := (hcgx9).to hq
        have hox10 := own_to hox9 hq
        have hBx10 := hBx9.trans (hq.mono hBx9.size)
        clear hq hBx9 hcgx9 hox9
        cases z with
        | false =>
          obtain rfl : m = 0 := by have := of_decide_eq_false HUP.out.any.symm; omega
          obtain rfl : L = 0 := HUP.out.zero rfl
          go_wp2_with fail
          go_round
          case rel => exact ⟨r + 1, 0, y + 1, 0, c2, false, _, G, by omega, rfl, by first | rfl | go_num, by omega, HUP.out, hcgx10, hox10, hBx10⟩
          case measure => simp [intOf]; omega
        | true =>
          have hm0 : 0 < m := of_decide_eq_true HUP.out.any.symm
          obtain ⟨t, rfl⟩ : ∃ t, m = t + 1 := ⟨m - 1, by omega⟩
          have hGt : G t = L := HUP.out.last hm0
          obtain ⟨g3, o3, hA3, hg3, hc3⟩ := Us.of_own hox10 t (by omega)
          rw [hGt] at hc3
          subst hA3
          clear hg3 hGt
          go_wp2_with fail
          go_round
          case rel => exact ⟨r + 1, t + 1, y + 1, L, c2, true, _, G, by omega, rfl, by first | rfl | go_num, by omega, HUP.out, hcgx10, hox10, hBx10⟩
          case measure => simp [intOf]; omega
    · have i2 : ¬ (r : Int) < (n : Int) := by omega
      go_wp2_with fail
      go_ret
      exact ⟨rfl, hB0⟩
end Go.Proofs.Ytoeifogkfookiaa
