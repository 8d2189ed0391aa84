/-
  The walk of the law EchoSamples of layer 20: for any samples it returns true, and writes nothing that was there.
-/
import Derived.Test.YtmfmcbghofcafaaEcc
namespace Go.Proofs.Ytmfmcbghofcafaa
open Go.RowKit
set_option linter.unusedVariables false
set_option linter.unusedSimpArgs false
set_option maxRecDepth 100000

set_option maxHeartbeats 800000 in
theorem ksamples (A : Option Addr) (n c : Nat) (H : Nat → Nat) (w : World) (h : Hs w w.heap.size A n H) (hF : ∀ j, j < n → H j < 65536) (hnc : n ≤ c) (hcm : c ≤ maxLen) :
    Calls Try.prog 5 #[.slice A n c] w fun e w' => e = .returned (.bool true) ∧ Below w.heap.size w w' := by
  by_cases h2 : n > 300
  · have i1 : (n : Int) > 300 := by omega
    clear h2 h hF hnc hcm
    have hBw : Below w.heap.size w w := Below.refl _ _
    go_enter Try.func5, Try.ntmps5
    go_wp2_with fail
    refine (kawake _).mono ?_
    rintro e x1 ⟨rfl, hq⟩
    have hBx1 := hBw.trans (hq.mono hBw.size)
    clear hq hBw 
    go_wp2_with fail
    refine (kawake _).mono ?_
    rintro e x2 ⟨rfl, hq⟩
    have hBx2 := hBx1.trans (hq.mono hBx1.size)
    clear hq hBx1 
    go_wp2_with fail
    go_ret
    exact ⟨rfl, hBx2⟩
  have i1 : ¬ (n : Int) > 300 := by omega
  have i3 : decide ((n : Int) > 300) = false := decide_eq_false i1
  have h300 : n ≤ 300 := by omega
  clear h2
  have HF := Lib.hid hF
  clear hF
  have hBw : Below w.heap.size w w := Below.refl _ _
  go_enter Try.func5, Try.ntmps5
  go_wp2_with fail
  refine (kawake _).mono ?_
  rintro e x3 ⟨rfl, hq⟩
  have hBx3 := hBw.trans (hq.mono hBw.size)
  clear hq hBw 
  obtain ⟨x4, hy⟩ : ∃ V : World, V = x3.alloc (.cells #[.int .u16 0, .int .i64 0, .int .u32 0] 46) := ⟨_, rfl⟩
  have hq : Below x3.heap.size x3 x4 := by rw [hy]; exact (Below.refl _ _).alloc (Nat.le_refl _) _
  have hrgrx4 : Rt x4 x3.heap.size 0 0 0 := by rw [hy]; exact ⟨Cx.new x3 3 (rtF 0 0 0) _, by decide⟩
  have hBx4 := hBx3.trans (hq.mono hBx3.size)
  have hlgr : w.heap.size ≤ x3.heap.size := hBx3.size
  clear hq hBx3 
  go_wp2_with fail
  rw [← hy]
  clear hy
  obtain ⟨gr, hgr⟩ : ∃ gr : Nat, x3.heap.size = gr := ⟨_, rfl⟩
  rw [hgr] at hrgrx4 hlgr 
  try simp only [hgr]
  clear hgr
  go_loopw [4] (fun j wr => ∃ (r L E : Nat), r ≤ n ∧ j = .int .i64 (r : Int) ∧ (r = 0 → L = 0) ∧ Hid (esF H r = E) ∧ Rt wr gr L r E ∧ Below w.heap.size w wr) (fun j _ => n - (intOf j).toNat)
  case atStart => exact ⟨0, 0, 0, Nat.zero_le _, rfl, fun _ => rfl, Lib.hid rfl, hrgrx4, hBx4⟩
  case round =>
    clear hrgrx4 hBx4
    obtain ⟨r, L, E, hr, rfl, hL, HE, hrgr0, hB0⟩ := hrel
    have HL := Lib.hid hL
    clear hL
    by_cases hlt : r < n
    · have i2 : (r : Int) < (n : Int) := by omega
      obtain ⟨b, off, rfl, hb, hcell⟩ := h r hlt
      obtain ⟨p, hp⟩ : ∃ p, H r = p := ⟨_, rfl⟩
      rw [hp] at hcell
      have HP := Lib.hid hp
      have hpl := HF.out r hlt
      rw [hp] at hpl
      have HPL := Lib.hid hpl
      clear hp hpl
      have ce := (hB0.cell (p := ⟨b, off + r, none⟩) hb).trans hcell
      obtain ⟨E2, hE2⟩ : ∃ E2, esN r E p = E2 := ⟨_, rfl⟩
      have HE2 := Lib.hid hE2
      have HE3 := Lib.hid (show esF H (r + 1) = E2 by rw [← hE2, ← HE.out, ← HP.out]; rfl)
      clear hE2
      go_wp2_with fail
      refine (radd gr _ r _ p _ hrgr0 (by omega) HPL.out).mono ?_
      rintro e x5 ⟨rfl, hrgrx5, hq⟩
      have hBx5 := hB0.trans (hq.on hB0.size (by omega))
      rw [show esN r E p = E2 from HE2.out] at hrgrx5
      clear hq hB0 hrgr0
      go_wp2_with fail
      refine (rlast gr _ _ _ _ hrgrx5).mono ?_
      rintro e x6 ⟨rfl, hq⟩
      have hrgrx6 := (hrgrx5).to hq
      have hBx6 := hBx5.trans (hq.mono hBx5.size)
      clear hq hBx5 hrgrx5
      rw [show decide (0 < r + 1) = true from decide_eq_true (by omega)]
      clear ce
      have ce := (hBx6.cell (p := ⟨b, off + r, none⟩) hb).trans hcell
      go_wp2_with fail
      refine (rcount gr _ _ _ _ hrgrx6).mono ?_
      rintro e w9 ⟨rfl, hv9⟩
      rw [hv9]
      clear hv9 w9
      go_wp2_with fail
      go_round
      case rel => exact ⟨r + 1, p, E2, by omega, by go_num, fun e => (by omega), HE3, hrgrx6, hBx6⟩
      case measure => simp [intOf]; omega
    · have i2 : ¬ (r : Int) < (n : Int) := by omega
      obtain rfl : r = n := by omega
      have hE := hrgr0.top
      by_cases h0 : r = 0
      · have hL := HL.out h0
        subst hL
        have j1 : ¬ (r : Int) > 0 := by omega
        have j2 : decide (0 < r) = false := decide_eq_false (by omega)
        clear h0
        go_wp2_with fail
        refine (rlast gr _ _ _ _ hrgr0).mono ?_
        rintro e x7 ⟨rfl, hq⟩
        have hrgrx7 := (hrgr0).to hq
        have hBx7 := hB0.trans (hq.mono hB0.size)
        clear hq hB0 hrgr0
        rw [j2]
        go_wp2_with fail
        refine (radd_nil 1 _).mono ?_
        rintro e w9 ⟨rfl, hv9⟩
        rw [hv9]
        clear hv9 w9
        go_wp2_with fail
        refine (rlast_nil _).mono ?_
        rintro e w9 ⟨rfl, hv9⟩
        rw [hv9]
        clear hv9 w9
        go_wp2_with fail
        refine (rest gr _ _ _ _ hrgrx7).mono ?_
        rintro e w9 ⟨rfl, hv9⟩
        rw [hv9]
        clear hv9 w9
        go_wp2_with fail
        refine (restimate A r c _ H _ (h.keep hBx7) HF.out (by omega)).mono ?_
        rintro e w9 ⟨rfl, hv9⟩
        rw [hv9]
        clear hv9 w9
        rw [HE.out]
        go_wp2_with fail
        refine (rcount_nil _).mono ?_
        rintro e w9 ⟨rfl, hv9⟩
        rw [hv9]
        clear hv9 w9
        go_wp2_with fail
        refine (rest_nil _).mono ?_
        rintro e w9 ⟨rfl, hv9⟩
        rw [hv9]
        clear hv9 w9
        go_wp2_with fail
        go_ret
        exact ⟨rfl, hBx7⟩
      · have j1 : (r : Int) > 0 := by omega
        have j2 : decide (0 < r) = true := decide_eq_true (by omega)
        clear h0
        go_wp2_with fail
        refine (rlast gr _ _ _ _ hrgr0).mono ?_
        rintro e x8 ⟨rfl, hq⟩
        have hrgrx8 := (hrgr0).to hq
        have hBx8 := hB0.trans (hq.mono hB0.size)
        clear hq hB0 hrgr0
        rw [j2]
        go_wp2_with fail
        refine (radd_nil 1 _).mono ?_
        rintro e w9 ⟨rfl, hv9⟩
        rw [hv9]
        clear hv9 w9
        go_wp2_with fail
        refine (rlast_nil _).mono ?_
        rintro e w9 ⟨rfl, hv9⟩
        rw [hv9]
        clear hv9 w9
        go_wp2_with fail
        refine (rest gr _ _ _ _ hrgrx8).mono ?_
        rintro e w9 ⟨rfl, hv9⟩
        rw [hv9]
        clear hv9 w9
        go_wp2_with fail
        refine (restimate A r c _ H _ (h.keep hBx8) HF.out (by omega)).mono ?_
        rintro e w9 ⟨rfl, hv9⟩
        rw [hv9]
        clear hv9 w9
        rw [HE.out]
        go_wp2_with fail
        refine (rcount_nil _).mono ?_
        rintro e w9 ⟨rfl, hv9⟩
        rw [hv9]
        clear hv9 w9
        go_wp2_with fail
        refine (rest_nil _).mono ?_
        rintro e w9 ⟨rfl, hv9⟩
        rw [hv9]
        clear hv9 w9
        go_wp2_with fail
        go_ret
        exact ⟨rfl, hBx8⟩
end Go.Proofs.Ytmfmcbghofcafaa
