/-
  The walk of the law CounterMatchesReference of layer 18: for every number and all calls it returns true, and writes nothing that was there.
-/
import Derived.Test.YtikefjlbjbjajaaCtb
import Derived.Deep.Cut
namespace Go.Proofs.Ytikefjlbjbjajaa
open Go.RowKit
set_option linter.unusedVariables false
set_option linter.unusedSimpArgs false
set_option maxRecDepth 100000
theorem kept18 {m g g2 q k : Nat} {z : Bool} {w W W2 : World} (h : W.cell? ⟨g2, 1, none⟩ = some (.int .u64 ((k : Nat) : Int)) ∧ Ct W g (q) (k) z ∧ Cx W g2 3 (ctF m (k) z) ∧ Below w.heap.size w W) (hb : Below W.heap.size W W2) : W2.cell? ⟨g2, 1, none⟩ = some (.int .u64 ((k : Nat) : Int)) ∧ Ct W2 g (q) (k) z ∧ Cx W2 g2 3 (ctF m (k) z) ∧ Below w.heap.size w W2 := by
  have h1 := h.2.2.1.to (by omega) hb
  exact ⟨(h1 1 (by omega)).1, h.2.1.to hb, h1, h.2.2.2.trans (hb.mono h.2.2.2.size)⟩

set_option maxHeartbeats 4000000 in
theorem cmatches (x : Nat) (A : Option Addr) (n c : Nat) (l : List UInt8) (w : World) (hx : x < 18446744073709551616) (h : Sl w w.heap.size A n l) (hnc : n ≤ c) (hcm : c ≤ maxLen) :
    Calls Try.prog 3 #[.int .u64 (x : Int), .slice A n c] w fun e w' => e = .returned (.bool true) ∧ Below w.heap.size w w' := by
  by_cases h2 : n > 200
  · have i1 : (n : Int) > 200 := by omega
    clear h2 hx h hnc hcm
    have hBw : Below w.heap.size w w := Below.refl _ _
    go_enter Try.func3, Try.ntmps3
    go_wp2_with fail
    refine (cawake _).mono ?_
    rintro e x1 ⟨rfl, hq⟩
    have hBx1 := hBw.trans (hq.mono hBw.size)
    clear hq hBw 
    go_wp2_with fail
    refine (cawake _).mono ?_
    rintro e x2 ⟨rfl, hq⟩
    have hBx2 := hBx1.trans (hq.mono hBx1.size)
    clear hq hBx1 
    go_wp2_with fail
    go_ret
    exact ⟨rfl, hBx2⟩
  have i1 : ¬ (n : Int) > 200 := by omega
  have i3 : decide ((n : Int) > 200) = false := decide_eq_false i1
  obtain ⟨m, hm⟩ : ∃ m, min x 9223372036854775807 = m := ⟨_, rfl⟩
  have HT := Lib.hid (show m ≤ 9223372036854775807 by omega)
  have HM := Lib.hid hm
  have HX := Lib.hid hx
  clear hm hx h2
  have hBw : Below w.heap.size w w := Below.refl _ _
  go_enter Try.func3, Try.ntmps3
  go_wp2_with fail
  refine (cawake _).mono ?_
  rintro e x3 ⟨rfl, hq⟩
  have hBx3 := hBw.trans (hq.mono hBw.size)
  clear hq hBw 
  go_wp2_with fail
  refine (cnew x _ HX.out).mono ?_
  rintro e x4 ⟨g, rfl, hl, hcgx4, hq⟩
  have hBx4 := hBx3.trans (hq.mono hBx3.size)
  have hlg : w.heap.size ≤ g := Nat.le_trans hBx3.size hl
  rw [show min x 9223372036854775807 = m from HM.out] at hcgx4
  clear hl
  clear hq hBx3 
  go_wp2_with fail
  refine (rcnew x _ HX.out).mono ?_
  rintro e x5 ⟨rfl, hq⟩
  have hcgx5 := (hcgx4).to hq
  have hBx5 := hBx4.trans (hq.mono hBx4.size)
  clear hq hBx4 hcgx4
  rw [show min x 9223372036854775807 = m from HM.out]
  obtain ⟨y, hy⟩ : ∃ V : World, V = x5.alloc (.cells #[.int .u64 (m : Int), .int .u64 0, .bool false] 28) := ⟨_, rfl⟩
  have hq : Below x5.heap.size x5 y := by rw [hy]; exact (Below.refl _ _).alloc (Nat.le_refl _) _
  have hcgy := hcgx5.to hq
  have hmy : Cx y x5.heap.size 3 (ctF m 0 false) := by rw [hy]; exact Cx.new x5 3 (ctF m 0 false) _
  have hBy := hBx5.trans (hq.mono hBx5.size)
  have hlt2 : g < x5.heap.size := hcgx5.lt
  clear hq hcgx5 hBx5
  go_upto_region 5 with fail
  rw [← hy]
  clear hy
  obtain ⟨g2, hg2⟩ : ∃ g2 : Nat, x5.heap.size = g2 := ⟨_, rfl⟩
  rw [hg2] at hmy hlt2
  try simp only [hg2]
  clear hg2
  rw [show (0 : Nat) = 0 from rfl] at hmy
  go_wp2_with fail
  go_loopw [7] (fun j wr => ∃ (r k : Nat) (z : Bool), r ≤ n ∧ j = .int .i64 (r : Int) ∧ Ct wr g (m + k) k z ∧ Cx wr g2 3 (ctF m k z) ∧ Below w.heap.size w wr) (fun j _ => n - (intOf j).toNat)
  case atStart => exact ⟨0, 0, false, Nat.zero_le _, rfl, hcgy, hmy, hBy⟩
  case round =>
    clear hcgy hmy hBy
    obtain ⟨r, k, z, hr, rfl, hcg0, hm0, hB0⟩ := hrel
    by_cases hlt : r < n
    · have i2 : (r : Int) < (n : Int) := by omega
      obtain ⟨b, off, rfl, hb, hcell⟩ := h.at_ hlt
      obtain ⟨B, hBv⟩ : ∃ B, (l.getD r 0).toNat = B := ⟨_, rfl⟩
      rw [hBv] at hcell
      clear hBv
      have hbg : b < g := by omega
      obtain ⟨q, hq⟩ : ∃ q, m + k = q := ⟨_, rfl⟩
      rw [hq] at hcg0
      have HQ := Lib.hid hq
      clear hq
      have HTQ := Lib.hid hcg0.top
      obtain ⟨C, hC⟩ : ∃ C, cdC q z = C := ⟨_, rfl⟩
      obtain ⟨V, hV⟩ : ∃ V, vlC q z = V := ⟨_, rfl⟩
      have HC := Lib.hid hC
      have HV := Lib.hid hV
      clear hC hV
      have c0 := (hm0 0 (by omega)).1
      have c1 := (hm0 1 (by omega)).1
      have c2 := (hm0 2 (by omega)).1
      simp only [ctF] at c0 c1 c2
      go_wp2_with fail
      refine (rcpeek m k q z _ HQ.out HTQ.out).mono ?_
      rintro e x6 ⟨rfl, hq⟩
      have hcgx6 := (hcg0).to hq
      have hmx6 := (hm0).to (by omega) hq
      have hBx6 := hB0.trans (hq.mono hB0.size)
      clear c0 c1 c2
      clear hq hB0 hcg0 hm0
      rw [show cdC q z = C from HC.out]
      rw [show vlC q z = V from HV.out]
      go_wp2_with fail
      refine (cpeek g _ _ _ _ hcgx6).mono ?_
      rintro e x7 ⟨rfl, hq⟩
      have hcgx7 := (hcgx6).to hq
      have hmx7 := (hmx6).to (by omega) hq
      have hBx7 := hBx6.trans (hq.mono hBx6.size)
      clear hq hBx6 hcgx6 hmx6
      rw [show cdC q z = C from HC.out]
      rw [show vlC q z = V from HV.out]
      go_wp2_with fail
      refine (told18 C C _).mono ?_
      rintro e w9 ⟨rfl, hv9⟩
      rw [hv9]
      clear hv9 w9
      rw [decide_eq_true rfl]
      have ce := (hBx7.cell (p := ⟨b, off + r, none⟩) hb).trans hcell
      by_cases hB0v : B = 0
      · subst hB0v
        go_wp2_with fail
        refine (cnext g _ _ _ _ hcgx7).mono ?_
        rintro e x8 ⟨rfl, hcgx8, hq⟩
        have hmx8 := (hmx7).but hq (On.ne (by omega))
        have hBx8 := hBx7.trans (hq.on hBx7.size (by omega))
        clear ce
        clear hq hBx7 hcgx7 hmx7
        rw [show cdC q z = C from HC.out]
        rw [show vlC q z = V from HV.out]
        go_wp2_with fail
        refine (told18 C C _).mono ?_
        rintro e w9 ⟨rfl, hv9⟩
        rw [hv9]
        clear hv9 w9
        rw [decide_eq_true rfl]
        by_cases hC0 : C = 0
        · subst hC0
          obtain ⟨k1, hk1⟩ : ∃ k1, k + 1 = k1 := ⟨_, rfl⟩
          obtain ⟨q1, hq1⟩ : ∃ q1, q + 1 = q1 := ⟨_, rfl⟩
          rw [show upC q z q = q1 from (if_pos HC.out).trans hq1, show upC q z k = k1 from (if_pos HC.out).trans hk1] at hcgx8
          have a1 : IntKind.u64.wrap ((k : Int) + 1) = (k1 : Int) := by have := hcgx8.top; have := HQ.out; rw [IntKind.wrap_u64]; omega
          have HQ1 := Lib.hid (show m + k1 = q1 by have := HQ.out; omega)
          clear hk1 hq1
          have c0 := (hmx8 0 (by omega)).1
          have c1 := (hmx8 1 (by omega)).1
          have c2 := (hmx8 2 (by omega)).1
          simp only [ctF] at c0 c1 c2
          have z1 := (hmx8 1 (by omega)).2
          obtain ⟨y2, hy2⟩ : ∃ V : World, V = x8.setCell ⟨g2, 1, none⟩ (.int .u64 (k1 : Int)) := ⟨_, rfl⟩
          have hq2 : But (On g2) x8 y2 := by rw [hy2]; exact (But.refl _ _).put 1 _
          have hcgy2 := hcgx8.but hq2 (On.ne (by omega))
          have hmy2 : Cx y2 g2 3 (ctF m k1 z) := by
            rw [hy2]
            refine (hmx8.set (.int .u64 (k1 : Int)) (by omega)).ext (fun j hj => ?_)
            have hj3 : j = 0 ∨ j = 1 ∨ j = 2 := by omega
            rcases hj3 with rfl | rfl | rfl <;> rfl
          have hBy2 := hBx8.trans (hq2.on hBx8.size (by omega))
          go_upto_region 18 with fail
          try rw [a1]
          rw [← hy2]
          clear hy2 hq2 hcgx8 hmx8 hBx8 c0 c1 c2 z1 a1
          have ce := (hBy2.cell (p := ⟨b, off + r, none⟩) hb).trans hcell
          go_upto_region 21 with fail
          clear ce
          obtain ⟨D, hD⟩ : ∃ D, 9223372036854775807 - m = D := ⟨_, rfl⟩
          obtain ⟨E, hE⟩ : ∃ E, 9223372036854775807 - (q1) = E := ⟨_, rfl⟩
          have HE := Lib.hid hE
          have aD : IntKind.u64.wrap (9223372036854775807 - (m : Int)) = (D : Int) := by have := HT.out; rw [IntKind.wrap_u64]; omega
          have aE : IntKind.u64.wrap ((D : Int) - ((k1 : Nat) : Int)) = (E : Int) := by have := HQ1.out; have := hcgy2.top; rw [IntKind.wrap_u64]; omega
          clear hD hE
          have c0 := (hmy2 0 (by omega)).1
          have c1 := (hmy2 1 (by omega)).1
          have c2 := (hmy2 2 (by omega)).1
          simp only [ctF] at c0 c1 c2
          cases z with
          | false =>
            have hlf := Lib.hid (show lfC (q1) false = E from HE.out)
            go_upto_region 24 with fail
            go_region_held3 (fun W => W.cell? ⟨g2, 1, none⟩ = some (.int .u64 ((k1 : Nat) : Int)) ∧ Ct W g (q1) (k1) false ∧ Cx W g2 3 (ctF m (k1) false) ∧ Below w.heap.size w W)
              (first | assumption | (exact ⟨c1, hcgy2.drew, hmy2.drew, hBy2.drew⟩) | (exact kept18 (by assumption) (by assumption)))
              (first
              | (go_at_call 16
                 refine (cgiven g _ _ _ _ (And.left (And.right (by assumption)))).mono ?_
                 rintro e w9 ⟨rfl, rfl⟩)
              | (go_at_call 17
                 refine (cleft g _ _ _ _ (And.left (And.right (by assumption)))).mono ?_
                 rintro e w9 ⟨rfl, hb9⟩
                 rw [hlf.out]))
            rename_i hS
            obtain ⟨_, hcg9, hm9, hB9⟩ := hS
            go_wp2_with fail
            go_round
            case rel => exact ⟨r + 1, k1, false, by omega, by go_num, by rw [show m + (k1) = q1 from HQ1.out]; exact hcg9, hm9, hB9⟩
            case measure => simp [intOf]; omega
          | true =>
            have hlf := Lib.hid (show lfC (q1) true = 0 from rfl)
            go_upto_region 24 with fail
            go_region_held3 (fun W => W.cell? ⟨g2, 1, none⟩ = some (.int .u64 ((k1 : Nat) : Int)) ∧ Ct W g (q1) (k1) true ∧ Cx W g2 3 (ctF m (k1) true) ∧ Below w.heap.size w W)
              (first | assumption | (exact ⟨c1, hcgy2.drew, hmy2.drew, hBy2.drew⟩) | (exact kept18 (by assumption) (by assumption)))
              (first
              | (go_at_call 16
                 refine (cgiven g _ _ _ _ (And.left (And.right (by assumption)))).mono ?_
                 rintro e w9 ⟨rfl, rfl⟩)
              | (go_at_call 17
                 refine (cleft g _ _ _ _ (And.left (And.right (by assumption)))).mono ?_
                 rintro e w9 ⟨rfl, hb9⟩
                 rw [hlf.out]))
            rename_i hS
            obtain ⟨_, hcg9, hm9, hB9⟩ := hS
            go_wp2_with fail
            go_round
            case rel => exact ⟨r + 1, k1, true, by omega, by go_num, by rw [show m + (k1) = q1 from HQ1.out]; exact hcg9, hm9, hB9⟩
            case measure => simp [intOf]; omega
        · have j1 : ((C : Int) == 0) = false := by simp [hC0]
          rw [show upC q z q = q from if_neg (by rw [HC.out]; exact hC0), show upC q z k = k from if_neg (by rw [HC.out]; exact hC0)] at hcgx8
          have ce := (hBx8.cell (p := ⟨b, off + r, none⟩) hb).trans hcell
          go_upto_region 21 with fail
          clear ce j1 hC0
          obtain ⟨D, hD⟩ : ∃ D, 9223372036854775807 - m = D := ⟨_, rfl⟩
          obtain ⟨E, hE⟩ : ∃ E, 9223372036854775807 - (q) = E := ⟨_, rfl⟩
          have HE := Lib.hid hE
          have aD : IntKind.u64.wrap (9223372036854775807 - (m : Int)) = (D : Int) := by have := HT.out; rw [IntKind.wrap_u64]; omega
          have aE : IntKind.u64.wrap ((D : Int) - ((k : Nat) : Int)) = (E : Int) := by have := HQ.out; have := hcgx8.top; rw [IntKind.wrap_u64]; omega
          clear hD hE
          have c0 := (hmx8 0 (by omega)).1
          have c1 := (hmx8 1 (by omega)).1
          have c2 := (hmx8 2 (by omega)).1
          simp only [ctF] at c0 c1 c2
          cases z with
          | false =>
            have hlf := Lib.hid (show lfC (q) false = E from HE.out)
            go_upto_region 24 with fail
            go_region_held3 (fun W => W.cell? ⟨g2, 1, none⟩ = some (.int .u64 ((k : Nat) : Int)) ∧ Ct W g (q) (k) false ∧ Cx W g2 3 (ctF m (k) false) ∧ Below w.heap.size w W)
              (first | assumption | (exact ⟨c1, hcgx8.drew, hmx8.drew, hBx8.drew⟩) | (exact kept18 (by assumption) (by assumption)))
              (first
              | (go_at_call 16
                 refine (cgiven g _ _ _ _ (And.left (And.right (by assumption)))).mono ?_
                 rintro e w9 ⟨rfl, rfl⟩)
              | (go_at_call 17
                 refine (cleft g _ _ _ _ (And.left (And.right (by assumption)))).mono ?_
                 rintro e w9 ⟨rfl, hb9⟩
                 rw [hlf.out]))
            rename_i hS
            obtain ⟨_, hcg9, hm9, hB9⟩ := hS
            go_wp2_with fail
            go_round
            case rel => exact ⟨r + 1, k, false, by omega, by go_num, by rw [show m + (k) = q from HQ.out]; exact hcg9, hm9, hB9⟩
            case measure => simp [intOf]; omega
          | true =>
            have hlf := Lib.hid (show lfC (q) true = 0 from rfl)
            go_upto_region 24 with fail
            go_region_held3 (fun W => W.cell? ⟨g2, 1, none⟩ = some (.int .u64 ((k : Nat) : Int)) ∧ Ct W g (q) (k) true ∧ Cx W g2 3 (ctF m (k) true) ∧ Below w.heap.size w W)
              (first | assumption | (exact ⟨c1, hcgx8.drew, hmx8.drew, hBx8.drew⟩) | (exact kept18 (by assumption) (by assumption)))
              (first
              | (go_at_call 16
                 refine (cgiven g _ _ _ _ (And.left (And.right (by assumption)))).mono ?_
                 rintro e w9 ⟨rfl, rfl⟩)
              | (go_at_call 17
                 refine (cleft g _ _ _ _ (And.left (And.right (by assumption)))).mono ?_
                 rintro e w9 ⟨rfl, hb9⟩
                 rw [hlf.out]))
            rename_i hS
            obtain ⟨_, hcg9, hm9, hB9⟩ := hS
            go_wp2_with fail
            go_round
            case rel => exact ⟨r + 1, k, true, by omega, by go_num, by rw [show m + (k) = q from HQ.out]; exact hcg9, hm9, hB9⟩
            case measure => simp [intOf]; omega
      · by_cases hB1v : B = 1
        · subst hB1v
          go_wp2_with fail
          refine (cclose g _ _ _ _ hcgx7).mono ?_
          rintro e x9 ⟨rfl, hcgx9, hq⟩
          have hmx9 := (hmx7).but hq (On.ne (by omega))
          have hBx9 := hBx7.trans (hq.on hBx7.size (by omega))
          clear ce
          clear hq hBx7 hcgx7 hmx7
          have c0 := (hmx9 0 (by omega)).1
          have c1 := (hmx9 1 (by omega)).1
          have c2 := (hmx9 2 (by omega)).1
          simp only [ctF] at c0 c1 c2
          have z2 := (hmx9 2 (by omega)).2
          obtain ⟨y2, hy2⟩ : ∃ V : World, V = x9.setCell ⟨g2, 2, none⟩ (.bool true) := ⟨_, rfl⟩
          have hq2 : But (On g2) x9 y2 := by rw [hy2]; exact (But.refl _ _).put 2 _
          have hcgy2 := hcgx9.but hq2 (On.ne (by omega))
          have hmy2 : Cx y2 g2 3 (ctF m k true) := by
            rw [hy2]
            refine (hmx9.set (.bool true) (by omega)).ext (fun j hj => ?_)
            have hj3 : j = 0 ∨ j = 1 ∨ j = 2 := by omega
            rcases hj3 with rfl | rfl | rfl <;> rfl
          have hBy2 := hBx9.trans (hq2.on hBx9.size (by omega))
          go_upto_region 21 with fail
          rw [← hy2]
          clear hy2 hq2 hcgx9 hmx9 hBx9 c0 c1 c2 z2
          obtain ⟨D, hD⟩ : ∃ D, 9223372036854775807 - m = D := ⟨_, rfl⟩
          obtain ⟨E, hE⟩ : ∃ E, 9223372036854775807 - (q) = E := ⟨_, rfl⟩
          have HE := Lib.hid hE
          have aD : IntKind.u64.wrap (9223372036854775807 - (m : Int)) = (D : Int) := by have := HT.out; rw [IntKind.wrap_u64]; omega
          have aE : IntKind.u64.wrap ((D : Int) - ((k : Nat) : Int)) = (E : Int) := by have := HQ.out; have := hcgy2.top; rw [IntKind.wrap_u64]; omega
          clear hD hE
          have c0 := (hmy2 0 (by omega)).1
          have c1 := (hmy2 1 (by omega)).1
          have c2 := (hmy2 2 (by omega)).1
          simp only [ctF] at c0 c1 c2
          have hlf := Lib.hid (show lfC (q) true = 0 from rfl)
          go_upto_region 24 with fail
          go_region_held3 (fun W => W.cell? ⟨g2, 1, none⟩ = some (.int .u64 ((k : Nat) : Int)) ∧ Ct W g (q) (k) true ∧ Cx W g2 3 (ctF m (k) true) ∧ Below w.heap.size w W)
            (first | assumption | (exact ⟨c1, hcgy2.drew, hmy2.drew, hBy2.drew⟩) | (exact kept18 (by assumption) (by assumption)))
            (first
            | (go_at_call 16
               refine (cgiven g _ _ _ _ (And.left (And.right (by assumption)))).mono ?_
               rintro e w9 ⟨rfl, rfl⟩)
            | (go_at_call 17
               refine (cleft g _ _ _ _ (And.left (And.right (by assumption)))).mono ?_
               rintro e w9 ⟨rfl, hb9⟩
               rw [hlf.out]))
          rename_i hS
          obtain ⟨_, hcg9, hm9, hB9⟩ := hS
          go_wp2_with fail
          go_round
          case rel => exact ⟨r + 1, k, true, by omega, by go_num, by rw [show m + (k) = q from HQ.out]; exact hcg9, hm9, hB9⟩
          case measure => simp [intOf]; omega
        · have j0 : ((B : Int) == 0) = false := by simp [hB0v]
          have j1 : ((B : Int) == 1) = false := by simp; omega
          go_upto_region 21 with fail
          clear ce j0 j1
          obtain ⟨D, hD⟩ : ∃ D, 9223372036854775807 - m = D := ⟨_, rfl⟩
          obtain ⟨E, hE⟩ : ∃ E, 9223372036854775807 - (q) = E := ⟨_, rfl⟩
          have HE := Lib.hid hE
          have aD : IntKind.u64.wrap (9223372036854775807 - (m : Int)) = (D : Int) := by have := HT.out; rw [IntKind.wrap_u64]; omega
          have aE : IntKind.u64.wrap ((D : Int) - ((k : Nat) : Int)) = (E : Int) := by have := HQ.out; have := hcgx7.top; rw [IntKind.wrap_u64]; omega
          clear hD hE
          have c0 := (hmx7 0 (by omega)).1
          have c1 := (hmx7 1 (by omega)).1
          have c2 := (hmx7 2 (by omega)).1
          simp only [ctF] at c0 c1 c2
          cases z with
          | false =>
            have hlf := Lib.hid (show lfC (q) false = E from HE.out)
            go_upto_region 24 with fail
            go_region_held3 (fun W => W.cell? ⟨g2, 1, none⟩ = some (.int .u64 ((k : Nat) : Int)) ∧ Ct W g (q) (k) false ∧ Cx W g2 3 (ctF m (k) false) ∧ Below w.heap.size w W)
              (first | assumption | (exact ⟨c1, hcgx7.drew, hmx7.drew, hBx7.drew⟩) | (exact kept18 (by assumption) (by assumption)))
              (first
              | (go_at_call 16
                 refine (cgiven g _ _ _ _ (And.left (And.right (by assumption)))).mono ?_
                 rintro e w9 ⟨rfl, rfl⟩)
              | (go_at_call 17
                 refine (cleft g _ _ _ _ (And.left (And.right (by assumption)))).mono ?_
                 rintro e w9 ⟨rfl, hb9⟩
                 rw [hlf.out]))
            rename_i hS
            obtain ⟨_, hcg9, hm9, hB9⟩ := hS
            go_wp2_with fail
            go_round
            case rel => exact ⟨r + 1, k, false, by omega, by go_num, by rw [show m + (k) = q from HQ.out]; exact hcg9, hm9, hB9⟩
            case measure => simp [intOf]; omega
          | true =>
            have hlf := Lib.hid (show lfC (q) true = 0 from rfl)
            go_upto_region 24 with fail
            go_region_held3 (fun W => W.cell? ⟨g2, 1, none⟩ = some (.int .u64 ((k : Nat) : Int)) ∧ Ct W g (q) (k) true ∧ Cx W g2 3 (ctF m (k) true) ∧ Below w.heap.size w W)
              (first | assumption | (exact ⟨c1, hcgx7.drew, hmx7.drew, hBx7.drew⟩) | (exact kept18 (by assumption) (by assumption)))
              (first
              | (go_at_call 16
                 refine (cgiven g _ _ _ _ (And.left (And.right (by assumption)))).mono ?_
                 rintro e w9 ⟨rfl, rfl⟩)
              | (go_at_call 17
                 refine (cleft g _ _ _ _ (And.left (And.right (by assumption)))).mono ?_
                 rintro e w9 ⟨rfl, hb9⟩
                 rw [hlf.out]))
            rename_i hS
            obtain ⟨_, hcg9, hm9, hB9⟩ := hS
            go_wp2_with fail
            go_round
            case rel => exact ⟨r + 1, k, true, by omega, by go_num, by rw [show m + (k) = q from HQ.out]; exact hcg9, hm9, hB9⟩
            case measure => simp [intOf]; omega
    · have i2 : ¬ (r : Int) < (n : Int) := by omega
      go_wp2_with fail
      go_ret
      exact ⟨rfl, hB0⟩
end Go.Proofs.Ytikefjlbjbjajaa
