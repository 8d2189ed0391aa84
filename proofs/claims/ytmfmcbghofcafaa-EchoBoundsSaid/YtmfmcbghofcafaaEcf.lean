/-
  The walk of the law EchoBounds of layer 20: for any samples it returns true, and writes nothing that was there.
-/
import Derived.Test.YtmfmcbghofcafaaEcc
namespace Go.Proofs.Ytmfmcbghofcafaa
open Go.RowKit
set_option linter.unusedVariables false
set_option linter.unusedSimpArgs false
set_option maxRecDepth 100000
/-- The estimate stays between. -/
theorem bounds_step {r E p lo hi : Nat} (h0 : r = 0 → lo = p ∧ hi = p) (h1 : 0 < r → 8 * lo ≤ E + 7 ∧ E ≤ 8 * hi + 7) : 8 * min lo p ≤ esN r E p + 7 ∧ esN r E p ≤ 8 * max hi p + 7 := by
  unfold esN
  split <;> rename_i h
  · obtain ⟨rfl, rfl⟩ := h0 h; omega
  · have := h1 (by omega); omega

set_option maxHeartbeats 800000 in
theorem kbounds (A : Option Addr) (n c : Nat) (H : Nat → Nat) (w : World) (h : Hs w w.heap.size A n H) (hF : ∀ j, j < n → H j < 65536) (hnc : n ≤ c) (hcm : c ≤ maxLen) :
    Calls Try.prog 6 #[.slice A n c] w fun e w' => e = .returned (.bool true) ∧ Below w.heap.size w w' := by
  by_cases h2 : n < 1
  · have i1 : (n : Int) < 1 := by omega
    clear h2 h hF hnc hcm
    have hBw : Below w.heap.size w w := Below.refl _ _
    go_enter Try.func6, Try.ntmps6
    go_wp2_with fail
    refine (kawake _).mono ?_
    rintro e x1 ⟨rfl, hq⟩
    have hBx1 := hBw.trans (hq.mono hBw.size)
    clear hq hBw 
    go_wp2_with fail
    refine (kawake _).mono ?_
    rintro e x2 ⟨rfl, hq⟩
    have hBx2 := hBx1.trans (hq.mono hBx1.size)
    clear hq hBx1 
    go_wp2_with fail
    go_ret
    exact ⟨rfl, hBx2⟩
  have i0 : ¬ (n : Int) < 1 := by omega
  have i4 : decide ((n : Int) < 1) = false := decide_eq_false i0
  have hn1 : 1 ≤ n := by omega
  clear h2
  by_cases h2 : n > 300
  · have i1 : (n : Int) > 300 := by omega
    clear h2 h hF hnc hcm
    have hBw : Below w.heap.size w w := Below.refl _ _
    go_enter Try.func6, Try.ntmps6
    go_wp2_with fail
    refine (kawake _).mono ?_
    rintro e x3 ⟨rfl, hq⟩
    have hBx3 := hBw.trans (hq.mono hBw.size)
    clear hq hBw 
    go_wp2_with fail
    refine (kawake _).mono ?_
    rintro e x4 ⟨rfl, hq⟩
    have hBx4 := hBx3.trans (hq.mono hBx3.size)
    clear hq hBx3 
    go_wp2_with fail
    go_ret
    exact ⟨rfl, hBx4⟩
  have i1 : ¬ (n : Int) > 300 := by omega
  have i3 : decide ((n : Int) > 300) = false := decide_eq_false i1
  have h300 : n ≤ 300 := by omega
  clear h2
  have HF := Lib.hid hF
  clear hF
  have hBw : Below w.heap.size w w := Below.refl _ _
  go_enter Try.func6, Try.ntmps6
  go_wp2_with fail
  refine (kawake _).mono ?_
  rintro e x5 ⟨rfl, hq⟩
  have hBx5 := hBw.trans (hq.mono hBw.size)
  clear hq hBw 
  obtain ⟨b0, off0, hA0, hb0, hcell0⟩ := h 0 (by omega)
  obtain ⟨p0, hp0⟩ : ∃ p, H 0 = p := ⟨_, rfl⟩
  have hpl0 := HF.out 0 (by omega)
  rw [hp0] at hcell0 hpl0
  have HP0 := Lib.hid hp0
  subst hA0
  rw [Nat.add_zero] at hcell0
  have j0 : (0 : Int) < (n : Int) := by omega
  clear hp0
  obtain ⟨x6, hy⟩ : ∃ V : World, V = x5.alloc (.cells #[.int .u16 0, .int .i64 0, .int .u32 0] 46) := ⟨_, rfl⟩
  have hq : Below x5.heap.size x5 x6 := by rw [hy]; exact (Below.refl _ _).alloc (Nat.le_refl _) _
  have hrgrx6 : Rt x6 x5.heap.size 0 0 0 := by rw [hy]; exact ⟨Cx.new x5 3 (rtF 0 0 0) _, by decide⟩
  have hBx6 := hBx5.trans (hq.mono hBx5.size)
  have hlgr : w.heap.size ≤ x5.heap.size := hBx5.size
  clear hq hBx5 
  have ce := (hBx6.cell (p := ⟨b0, off0, none⟩) hb0).trans hcell0
  rw [hy] at ce
  go_wp2_with fail
  rw [← hy]
  clear ce
  clear hy
  obtain ⟨gr, hgr⟩ : ∃ gr : Nat, x5.heap.size = gr := ⟨_, rfl⟩
  rw [hgr] at hrgrx6 hlgr 
  try simp only [hgr]
  clear hgr
  go_loopw [4, 5, 6] (fun u v j wr => ∃ (r lo hi L E : Nat), r ≤ n ∧ u = .int .i64 (lo : Int) ∧ v = .int .i64 (hi : Int) ∧ j = .int .i64 (r : Int) ∧ Hid (esF H r = E) ∧ Hid (r = 0 → lo = p0 ∧ hi = p0) ∧ Hid (0 < r → 8 * lo ≤ E + 7 ∧ E ≤ 8 * hi + 7) ∧ Hid (lo < 65536 ∧ hi < 65536) ∧ Rt wr gr L r E ∧ Below w.heap.size w wr) (fun u v j _ => n - (intOf j).toNat)
  case atStart => exact ⟨0, p0, p0, 0, 0, Nat.zero_le _, rfl, rfl, rfl, Lib.hid rfl, Lib.hid (fun _ => ⟨rfl, rfl⟩), Lib.hid (fun e => absurd e (by omega)), Lib.hid ⟨hpl0, hpl0⟩, hrgrx6, hBx6⟩
  case round =>
    clear hrgrx6 hBx6
    obtain ⟨r, lo, hi, L, E, hr, rfl, rfl, rfl, HE, H0, H1, H2, hrgr0, hB0⟩ := hrel
    by_cases hlt : r < n
    · have i2 : (r : Int) < (n : Int) := by omega
      obtain ⟨b, off, hA, hb, hcell⟩ := h r hlt
      injection hA with hA
      injection hA with e1 e2 e3
      subst e1 e2
      skip
      obtain ⟨p, hp⟩ : ∃ p, H r = p := ⟨_, rfl⟩
      rw [hp] at hcell
      have HP := Lib.hid hp
      have hpl := HF.out r hlt
      rw [hp] at hpl
      have HPL := Lib.hid hpl
      obtain ⟨m, hm⟩ : ∃ m, min lo p = m := ⟨_, rfl⟩
      obtain ⟨M, hM⟩ : ∃ M, max hi p = M := ⟨_, rfl⟩
      obtain ⟨E2, hE2⟩ : ∃ E2, esN r E p = E2 := ⟨_, rfl⟩
      have hst := bounds_step (r := r) (E := E) (p := p) (lo := lo) (hi := hi) (fun e => by have := H0.out e; have h9 := HP0.out; subst e; rw [hp] at h9; omega) H1.out
      rw [hm, hM, hE2] at hst
      have HST := Lib.hid hst
      have h2 := H2.out
      have HMM := Lib.hid (show m < 65536 ∧ M < 65536 by omega)
      have HE2 := Lib.hid hE2
      have HE3 := Lib.hid (show esF H (r + 1) = E2 by rw [← hE2, ← HE.out, ← hp]; rfl)
      have q1 : min (lo : Int) (p : Int) = (m : Int) := by omega
      have q2 : max (hi : Int) (p : Int) = (M : Int) := by omega
      clear hp hm hM hE2 hst h2
      have ce := (hB0.cell (p := ⟨b0, off0 + r, none⟩) hb).trans hcell
      go_wp2_with fail
      refine (radd gr _ r _ p _ hrgr0 (by omega) HPL.out).mono ?_
      rintro e x7 ⟨rfl, hrgrx7, hq⟩
      have hBx7 := hB0.trans (hq.on hB0.size (by omega))
      rw [show esN r E p = E2 from HE2.out] at hrgrx7
      clear hq hB0 hrgr0
      clear ce
      have ce := (hBx7.cell (p := ⟨b0, off0 + r, none⟩) hb).trans hcell
      go_wp2_with fail
      go_round
      case rel => exact ⟨r + 1, m, M, p, E2, by omega, by first | rfl | go_num, by first | rfl | go_num, by go_num, HE3, Lib.hid (fun e => absurd e (by omega)), Lib.hid (fun _ => HST.out), HMM, hrgrx7, hBx7⟩
      case measure => simp [intOf]; omega
    · have i2 : ¬ (r : Int) < (n : Int) := by omega
      obtain rfl : r = n := by omega
      have hE := hrgr0.top
      obtain ⟨d1, d2⟩ := H1.out (by omega)
      obtain ⟨d3, d4⟩ := H2.out
      go_wp2_with fail
      refine (rest gr _ _ _ _ hrgr0).mono ?_
      rintro e w9 ⟨rfl, hv9⟩
      rw [hv9]
      clear hv9 w9
      go_wp2_with fail
      refine (restimate (some ⟨b0, off0, none⟩) r c _ H _ (h.keep hB0) HF.out (by omega)).mono ?_
      rintro e w9 ⟨rfl, hv9⟩
      rw [hv9]
      clear hv9 w9
      rw [HE.out]
      go_wp2_with fail
      go_ret
      exact ⟨rfl, hB0⟩
end Go.Proofs.Ytmfmcbghofcafaa
