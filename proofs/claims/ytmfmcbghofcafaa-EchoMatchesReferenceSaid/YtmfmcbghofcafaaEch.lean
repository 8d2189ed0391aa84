/-
  The walk of the law EchoMatchesReference of layer 20: for any calls and any tick it returns true, and writes nothing that was there.
-/
import Derived.Test.YtmfmcbghofcafaaEcc
import Derived.Deep.Cut
namespace Go.Proofs.Ytmfmcbghofcafaa
open Go.RowKit
set_option linter.unusedVariables false
set_option linter.unusedSimpArgs false
set_option maxRecDepth 100000

set_option maxHeartbeats 1000000 in
theorem kmatches (A : Option Addr) (n c : Nat) (zf : Nat → Bool) (sf tf : Nat → Nat) (probe : Nat) (w : World) (h : Cs w w.heap.size A n zf sf tf) (hS : ∀ i, sf i < 65536) (hT : ∀ i, tf i < 18446744073709551616) (hnc : n ≤ c) (hcm : c ≤ maxLen) (hp : probe < 18446744073709551616) :
    Calls Try.prog 3 #[.slice A n c, .int .u64 (probe : Int)] w fun e w' => e = .returned (.bool true) ∧ Below w.heap.size w w' := by
  by_cases h2 : n > 100
  · have i1 : (n : Int) > 100 := by omega
    clear h2 h hS hT hnc hcm hp
    have hBw : Below w.heap.size w w := Below.refl _ _
    go_enter Try.func3, Try.ntmps3
    go_wp2_with fail
    refine (kawake _).mono ?_
    rintro e x1 ⟨rfl, hq⟩
    have hBx1 := hBw.trans (hq.mono hBw.size)
    clear hq hBw 
    go_wp2_with fail
    refine (kawake _).mono ?_
    rintro e x2 ⟨rfl, hq⟩
    have hBx2 := hBx1.trans (hq.mono hBx1.size)
    clear hq hBx1 
    go_wp2_with fail
    go_ret
    exact ⟨rfl, hBx2⟩
  have i1 : ¬ (n : Int) > 100 := by omega
  have i3 : decide ((n : Int) > 100) = false := decide_eq_false i1
  have h100 : n ≤ 100 := by omega
  have HSB := Lib.hid hS
  have HTB := Lib.hid hT
  have HPB := Lib.hid hp
  clear h2 hS hT hp
  obtain ⟨dK, hu, hud⟩ := row_of (show (Try.prog.underlying 28).map (·.isRow) = some true by kernel_rfl)
  have HU := Lib.hid hu
  have HUD := Lib.hid hud
  clear hu hud
  have hBw : Below w.heap.size w w := Below.refl _ _
  go_enter Try.func3, Try.ntmps3
  go_wp2_with fail
  refine (kawake _).mono ?_
  rintro e x3 ⟨rfl, hq⟩
  have hBx3 := hBw.trans (hq.mono hBw.size)
  clear hq hBw 
  go_wp2_with fail
  refine (enew _).mono ?_
  rintro e x4 ⟨g, rfl, hl, hegx4, hq⟩
  have hBx4 := hBx3.trans (hq.mono hBx3.size)
  have hlg : w.heap.size ≤ g := Nat.le_trans hBx3.size hl
  clear hl
  clear hq hBx3 
  obtain ⟨x5, hy⟩ : ∃ V : World, V = x4.alloc (.cells #[.bool false, .int .i64 0, .int .u64 0] 28) := ⟨_, rfl⟩
  have hq : Below x4.heap.size x4 x5 := by rw [hy]; exact (Below.refl _ _).alloc (Nat.le_refl _) _
  have hKx5 : Cx x5 x4.heap.size 3 (kpF false 0 0) := by rw [hy]; exact Cx.new x4 3 (kpF false 0 0) _
  have hegx5 := (hegx4).to hq
  have hBx5 := hBx4.trans (hq.mono hBx4.size)
  have hlgk : w.heap.size ≤ x4.heap.size := hBx4.size
  have hltggk : g < x4.heap.size := hegx4.lt
  clear hq hBx4 hegx4
  go_upto_region 5 with fail
  rw [← hy]
  clear hy
  obtain ⟨gk, hgk⟩ : ∃ gk : Nat, x4.heap.size = gk := ⟨_, rfl⟩
  rw [hgk] at hKx5 hlgk hltggk
  try simp only [hgk]
  clear hgk
  go_wp2_with fail
  go_loopw [7] (fun j wr => ∃ (r q S T : Nat) (z : Bool), r ≤ n ∧ j = .int .i64 (r : Int) ∧ Hid (z = true → gk < q) ∧ Ek wr g q S T z ∧ Cx wr gk 3 (kpF z S T) ∧ Below w.heap.size w wr) (fun j _ => n - (intOf j).toNat)
  case atStart => exact ⟨0, 0, 0, 0, false, Nat.zero_le _, rfl, Lib.hid (fun e => by cases e), hegx5, hKx5, hBx5⟩
  case round =>
    clear hegx5 hKx5 hBx5
    obtain ⟨r, q, S, T, z, hr, rfl, H1, heg0, hK0, hB0⟩ := hrel
    have hegwr := heg0
    have hKwr := hK0
    have hBwr := hB0
    clear heg0 hK0 hB0
    by_cases hlt : r < n
    · have i2 : (r : Int) < (n : Int) := by omega
      obtain ⟨b, off, rfl, hb, hcl⟩ := h r hlt
      obtain ⟨zr, hzr⟩ : ∃ v, zf r = v := ⟨_, rfl⟩
      obtain ⟨p, hp⟩ : ∃ v, sf r = v := ⟨_, rfl⟩
      obtain ⟨x, hx⟩ : ∃ v, tf r = v := ⟨_, rfl⟩
      have k0 := hcl 0 (by omega)
      have k1 := hcl 1 (by omega)
      have k2 := hcl 2 (by omega)
      simp only [claF, hzr, hp, hx, Nat.add_zero] at k0 k1 k2
      have hpl : p < 65536 := by rw [← hp]; exact HSB.out r
      have hxl : x < 18446744073709551616 := by rw [← hx]; exact HTB.out r
      have HPL := Lib.hid hpl
      have HXL := Lib.hid hxl
      have K1 := Lib.hid k1
      have K2 := Lib.hid k2
      have HBb := Lib.hid hb
      clear hcl hzr hp hx k1 k2 hb
      have HTOP := Lib.hid hegwr.top
      have hlkg : g < gk := hltggk
      have HWP := Lib.hid (show IntKind.i64.wrap (p : Int) = (p : Int) by rw [IntKind.wrap_i64]; omega)
      clear hpl
      cases z with
      | false =>
        obtain ⟨N, hN⟩ : ∃ N, hdE T false probe = N := ⟨_, rfl⟩
        have HN := Lib.hid hN
        obtain rfl : N = 0 := hN.symm
        go_wp2_with fail
        refine (eheld g _ _ _ _ probe _ hegwr HPB.out).mono ?_
        rintro e w9 ⟨rfl, hv9⟩
        rw [hv9]
        clear hv9 w9
        rw [show hdE T false probe = 0 from HN.out]
        have c0 := (hKwr 0 (by omega)).1
        have c1 := (hKwr 1 (by omega)).1
        have c2 := (hKwr 2 (by omega)).1
        simp only [kpF] at c0 c1 c2
        have ce := (hBwr.cell (p := ⟨b, off + r * 3, none⟩) HBb.out).trans k0
        cases zr with
        | false =>
          go_upto_region 14 with fail
          try clear c0 c1 c2
          clear ce
          have hewr := hegwr
          clear hegwr
          obtain ⟨A, hA⟩ : ∃ A, rpE S T false x = A := ⟨_, rfl⟩
          have hA2 : A < 65536 := by rw [← hA]; exact rpE_lt _ _ _ _
          have HA := Lib.hid hA
          have HWA := Lib.hid (show IntKind.i64.wrap (A : Int) = (A : Int) by rw [IntKind.wrap_i64]; omega)
          clear hA
          refine wp_region_noPanic ?_
          have hepfd := hewr.drew
          refine wp_region_held_drew (S := fun W => Cx W gk 3 (kpF false S T) ∧ Below w.heap.size w W) (by kernel_rfl) ⟨hKwr.drew, hBwr.drew⟩ (fun hHeld => ?_)
          clear hKwr hBwr hewr
          generalize World.drew wr = pfd at *
          refine wpAnyH_take (i := 0) (v := ?vpf1) rfl (by kernel_rfl) (by kernel_rfl) (by kernel_rfl) (fun _ _ _ h => h) (Or.inl ⟨by rfl, ?hypf1⟩) (by assumption) ?restpf1
          case hypf1 =>
            intro W hSw
            go_simp
            try with_reducible rfl
          simp only [Act.put, List.setIfInBounds_toArray, List.set_cons_zero, List.set_cons_succ, List.getElem_toArray, List.getElem_cons_zero]
          refine wpAnyH_take (i := 1) (v := ?vpf2) rfl (by kernel_rfl) (by kernel_rfl) (by kernel_rfl) (fun _ _ _ h => h) (Or.inl ⟨by rfl, ?hypf2⟩) (by assumption) ?restpf2
          case hypf2 =>
            intro W hSw
            go_simp
            try with_reducible rfl
          simp only [Act.put, List.setIfInBounds_toArray, List.set_cons_zero, List.set_cons_succ, List.getElem_toArray, List.getElem_cons_zero, List.getElem_cons_succ]
          refine wpAnyH_take (i := 2) (v := ?vpf3) rfl (by kernel_rfl) (by kernel_rfl) (by kernel_rfl) (fun _ _ _ h => h) (Or.inl ⟨by rfl, ?hypf3⟩) (by assumption) ?restpf3
          case hypf3 =>
            intro W hSw
            go_simp
            try with_reducible rfl
          simp only [Act.put, List.setIfInBounds_toArray, List.set_cons_zero, List.set_cons_succ, List.getElem_toArray, List.getElem_cons_zero, List.getElem_cons_succ]
          refine wpAnyH_take (i := 3) (v := ?vpf4) rfl (by kernel_rfl) (by kernel_rfl) (by kernel_rfl) (fun _ _ _ h => h) (Or.inl ⟨by rfl, ?hypf4⟩) (by assumption) ?restpf4
          case hypf4 =>
            intro W hSw
            go_simp
            try with_reducible rfl
          simp only [Act.put, List.setIfInBounds_toArray, List.set_cons_zero, List.set_cons_succ, List.getElem_toArray, List.getElem_cons_zero, List.getElem_cons_succ]
          refine wpAnyH_take (i := 4) (v := ?vpf5) rfl (by kernel_rfl) (by kernel_rfl) (by kernel_rfl) (fun _ _ _ h => h) (Or.inl ⟨by rfl, ?hypf5⟩) (by assumption) ?restpf5
          case hypf5 =>
            intro W hSw
            go_simp
            try with_reducible rfl
          simp only [Act.put, List.setIfInBounds_toArray, List.set_cons_zero, List.set_cons_succ, List.getElem_toArray, List.getElem_cons_zero, List.getElem_cons_succ]
          refine wpAnyH_take (i := 5) (v := ?vpf6) rfl (by kernel_rfl) (by kernel_rfl) (by kernel_rfl) (fun _ _ _ h => h) (Or.inl ⟨by rfl, ?hypf6⟩) (by assumption) ?restpf6
          case hypf6 =>
            intro W hSw
            have ce := ((hSw.2).cell (p := ⟨b, off + r * 3 + 2, none⟩) HBb.out).trans K2.out
            go_simp
            try with_reducible rfl
          simp only [Act.put, List.setIfInBounds_toArray, List.set_cons_zero, List.set_cons_succ, List.getElem_toArray, List.getElem_cons_zero, List.getElem_cons_succ]
          refine wpAnyH_take (i := 8) (v := .agg ([.bool false, .int .i64 (S : Int), .int .u64 (T : Int)]).toArray) rfl (by kernel_rfl) (by kernel_rfl) (by kernel_rfl) (fun _ _ _ h => h) (yieldsIf_load_mid (by rfl) _ _ rfl gk (0) rfl ([.bool false, .int .i64 (S : Int), .int .u64 (T : Int)]) _ (fun W hSw => kp_range (hSw.1)) HU.out HUD.out (by kernel_rfl)) (by assumption) ?_
          simp only [Act.put, List.setIfInBounds_toArray, List.set_cons_zero, List.set_cons_succ, List.getElem_toArray, List.getElem_cons_zero, List.getElem_cons_succ]
          refine wpAnyH_take (i := 9) (v := ?vpf7) rfl (by kernel_rfl) (by kernel_rfl) (by kernel_rfl) (fun _ _ _ h => h) (Or.inl ⟨by rfl, ?hypf7⟩) (by assumption) ?restpf7
          case hypf7 =>
            intro W hSw
            go_simp
            try with_reducible rfl
          simp only [Act.put, List.setIfInBounds_toArray, List.set_cons_zero, List.set_cons_succ, List.getElem_toArray, List.getElem_cons_zero, List.getElem_cons_succ]
          refine wpAnyH_take (i := 10) (v := ?vpf8) rfl (by kernel_rfl) (by kernel_rfl) (by kernel_rfl) (fun _ _ _ h => h) (Or.inl ⟨by rfl, ?hypf8⟩) (by assumption) ?restpf8
          case hypf8 =>
            intro W hSw
            go_simp
            try with_reducible rfl
          simp only [Act.put, List.setIfInBounds_toArray, List.set_cons_zero, List.set_cons_succ, List.getElem_toArray, List.getElem_cons_zero, List.getElem_cons_succ]
          refine wpAnyH_take (i := 11) (v := ?vpf9) rfl (by kernel_rfl) (by kernel_rfl) (by kernel_rfl) (fun _ _ _ h => h) (Or.inl ⟨by rfl, ?hypf9⟩) (by assumption) ?restpf9
          case hypf9 =>
            intro W hSw
            go_simp
            try with_reducible rfl
          simp only [Act.put, List.setIfInBounds_toArray, List.set_cons_zero, List.set_cons_succ, List.getElem_toArray, List.getElem_cons_zero, List.getElem_cons_succ]
          refine wpAnyH_take (i := 12) (v := ?vpf10) rfl (by kernel_rfl) (by kernel_rfl) (by kernel_rfl) (fun _ _ _ h => h) (Or.inl ⟨by rfl, ?hypf10⟩) (by assumption) ?restpf10
          case hypf10 =>
            intro W hSw
            go_simp
            try with_reducible rfl
          simp only [Act.put, List.setIfInBounds_toArray, List.set_cons_zero, List.set_cons_succ, List.getElem_toArray, List.getElem_cons_zero, List.getElem_cons_succ]
          refine wpAnyH_take (i := 13) (v := ?vpf11) rfl (by kernel_rfl) (by kernel_rfl) (by kernel_rfl) (fun _ _ _ h => h) (Or.inl ⟨by rfl, ?hypf11⟩) (by assumption) ?restpf11
          case hypf11 =>
            intro W hSw
            have ce := ((hSw.2).cell (p := ⟨b, off + r * 3 + 2, none⟩) HBb.out).trans K2.out
            go_simp
            try with_reducible rfl
          simp only [Act.put, List.setIfInBounds_toArray, List.set_cons_zero, List.set_cons_succ, List.getElem_toArray, List.getElem_cons_zero, List.getElem_cons_succ]
          refine wpAnyH_ready (rs := [6]) (by kernel_rfl) (by simp) ?_
          refine AllReadyH.cons rfl (fun K hK => ?_) AllReadyH.nil
          go_simp
          refine (ereply g _ _ _ _ x _ hepfd HXL.out).mono ?_
          rintro e pf12 ⟨rfl, hepf12, hq⟩
          rw [HA.out]
          go_wp2_with fail
          refine hK.out _ _ ⟨(hHeld.1).but hq (On.ne (by omega)), (hHeld.2).trans (hq.on (hHeld.2).size (by omega))⟩ (fun hHeld2 => ?_)
          clear hK K hHeld hq hepfd
          have hHeld := hHeld2
          clear hHeld2
          try simp only [Act.put, List.setIfInBounds_toArray, List.set_cons_zero, List.set_cons_succ, List.getElem_toArray, List.getElem_cons_zero, List.getElem_cons_succ]
          refine wpAnyH_take (i := 7) (v := ?vpf13) rfl (by kernel_rfl) (by kernel_rfl) (by kernel_rfl) (fun _ _ _ h => h) (Or.inl ⟨by rfl, ?hypf13⟩) (by assumption) ?restpf13
          case hypf13 =>
            intro W hSw
            have i8 := HWA.out
            go_simp
            try with_reducible rfl
          simp only [Act.put, List.setIfInBounds_toArray, List.set_cons_zero, List.set_cons_succ, List.getElem_toArray, List.getElem_cons_zero, List.getElem_cons_succ]
          refine wpAnyH_ready (rs := [14]) (by kernel_rfl) (by simp) ?_
          refine AllReadyH.cons rfl (fun K hK => ?_) AllReadyH.nil
          go_simp
          refine (rreply false S T x _ HXL.out HTOP.out.1).mono ?_
          rintro e pf14 ⟨rfl, hq⟩
          rw [HA.out]
          go_wp2_with fail
          have hepf14 := (hepf12).to hq
          refine hK.out _ _ ⟨(hHeld.1).to (by omega) hq, (hHeld.2).trans (hq.mono (hHeld.2).size)⟩ (fun hHeld2 => ?_)
          clear hK K hHeld hq hepf12
          have hHeld := hHeld2
          clear hHeld2
          try simp only [Act.put, List.setIfInBounds_toArray, List.set_cons_zero, List.set_cons_succ, List.getElem_toArray, List.getElem_cons_zero, List.getElem_cons_succ]
          refine wpAnyH_take (i := 15) (v := ?vpf15) rfl (by kernel_rfl) (by kernel_rfl) (by kernel_rfl) (fun _ _ _ h => h) (Or.inl ⟨by rfl, ?hypf15⟩) (by assumption) ?restpf15
          case hypf15 =>
            intro W hSw
            go_simp
            try with_reducible rfl
          simp only [Act.put, List.setIfInBounds_toArray, List.set_cons_zero, List.set_cons_succ, List.getElem_toArray, List.getElem_cons_zero, List.getElem_cons_succ]
          refine wpAnyH_done (by kernel_rfl) ?_ _
          have hKpf14 := hHeld.1
          have hBpf14 := hHeld.2
          clear hHeld
          refine NoPanic.normal ?_
          try dsimp only [Act.put]
          have c0 := (hKpf14 0 (by omega)).1
          have z0 := (hKpf14 0 (by omega)).2
          simp only [kpF] at c0
          obtain ⟨pf14s, hy2⟩ : ∃ V : World, V = pf14.setCell ⟨gk, 0, none⟩ (.bool false) := ⟨_, rfl⟩
          have hq2 : But (On gk) pf14 pf14s := by rw [hy2]; exact (But.refl _ _).put 0 _
          have hepf14s := hepf14.but hq2 (On.ne (by omega)) (fun e => by cases e)
          have hKpf14s : Cx pf14s gk 3 (kpF false S T) := by
            rw [hy2]
            refine (hKpf14.set (.bool false) (by omega)).ext (fun j hj => ?_)
            have hj3 : j = 0 ∨ j = 1 ∨ j = 2 := by omega
            rcases hj3 with rfl | rfl | rfl <;> rfl
          have hBpf14s := hBpf14.trans (hq2.on hBpf14.size (by omega))
          go_upto_region 7 with fail
          rw [← hy2]
          clear hy2 hq2 hepf14 hKpf14 hBpf14 c0 z0
          go_wp2_with fail
          go_round
          case rel => exact ⟨r + 1, q, S, T, false, by omega, by go_num, Lib.hid (fun e => by cases e), hepf14s, hKpf14s, hBpf14s⟩
          case measure => simp [intOf]; omega
        | true =>
          go_upto_region 12 with fail
          try clear c0 c1 c2
          clear ce
          have hewr := hegwr
          clear hegwr
          refine wp_region_noPanic ?_
          have hetfd := hewr.drew
          refine wp_region_held_drew (S := fun W => Cx W gk 3 (kpF false S T) ∧ Below w.heap.size w W) (by kernel_rfl) ⟨hKwr.drew, hBwr.drew⟩ (fun hHeld => ?_)
          clear hKwr hBwr hewr
          generalize World.drew wr = tfd at *
          refine wpAnyH_take (i := 0) (v := ?vtf1) rfl (by kernel_rfl) (by kernel_rfl) (by kernel_rfl) (fun _ _ _ h => h) (Or.inl ⟨by rfl, ?hytf1⟩) (by assumption) ?resttf1
          case hytf1 =>
            intro W hSw
            go_simp
            try with_reducible rfl
          simp only [Act.put, List.setIfInBounds_toArray, List.set_cons_zero, List.set_cons_succ, List.getElem_toArray, List.getElem_cons_zero]
          refine wpAnyH_take (i := 1) (v := ?vtf2) rfl (by kernel_rfl) (by kernel_rfl) (by kernel_rfl) (fun _ _ _ h => h) (Or.inl ⟨by rfl, ?hytf2⟩) (by assumption) ?resttf2
          case hytf2 =>
            intro W hSw
            go_simp
            try with_reducible rfl
          simp only [Act.put, List.setIfInBounds_toArray, List.set_cons_zero, List.set_cons_succ, List.getElem_toArray, List.getElem_cons_zero, List.getElem_cons_succ]
          refine wpAnyH_take (i := 2) (v := ?vtf3) rfl (by kernel_rfl) (by kernel_rfl) (by kernel_rfl) (fun _ _ _ h => h) (Or.inl ⟨by rfl, ?hytf3⟩) (by assumption) ?resttf3
          case hytf3 =>
            intro W hSw
            go_simp
            try with_reducible rfl
          simp only [Act.put, List.setIfInBounds_toArray, List.set_cons_zero, List.set_cons_succ, List.getElem_toArray, List.getElem_cons_zero, List.getElem_cons_succ]
          refine wpAnyH_take (i := 3) (v := ?vtf4) rfl (by kernel_rfl) (by kernel_rfl) (by kernel_rfl) (fun _ _ _ h => h) (Or.inl ⟨by rfl, ?hytf4⟩) (by assumption) ?resttf4
          case hytf4 =>
            intro W hSw
            go_simp
            try with_reducible rfl
          simp only [Act.put, List.setIfInBounds_toArray, List.set_cons_zero, List.set_cons_succ, List.getElem_toArray, List.getElem_cons_zero, List.getElem_cons_succ]
          refine wpAnyH_take (i := 4) (v := ?vtf5) rfl (by kernel_rfl) (by kernel_rfl) (by kernel_rfl) (fun _ _ _ h => h) (Or.inl ⟨by rfl, ?hytf5⟩) (by assumption) ?resttf5
          case hytf5 =>
            intro W hSw
            go_simp
            try with_reducible rfl
          simp only [Act.put, List.setIfInBounds_toArray, List.set_cons_zero, List.set_cons_succ, List.getElem_toArray, List.getElem_cons_zero, List.getElem_cons_succ]
          refine wpAnyH_take (i := 5) (v := ?vtf6) rfl (by kernel_rfl) (by kernel_rfl) (by kernel_rfl) (fun _ _ _ h => h) (Or.inl ⟨by rfl, ?hytf6⟩) (by assumption) ?resttf6
          case hytf6 =>
            intro W hSw
            have ce := ((hSw.2).cell (p := ⟨b, off + r * 3 + 1, none⟩) HBb.out).trans K1.out
            go_simp
            try with_reducible rfl
          simp only [Act.put, List.setIfInBounds_toArray, List.set_cons_zero, List.set_cons_succ, List.getElem_toArray, List.getElem_cons_zero, List.getElem_cons_succ]
          refine wpAnyH_take (i := 6) (v := ?vtf7) rfl (by kernel_rfl) (by kernel_rfl) (by kernel_rfl) (fun _ _ _ h => h) (Or.inl ⟨by rfl, ?hytf7⟩) (by assumption) ?resttf7
          case hytf7 =>
            intro W hSw
            go_simp
            try with_reducible rfl
          simp only [Act.put, List.setIfInBounds_toArray, List.set_cons_zero, List.set_cons_succ, List.getElem_toArray, List.getElem_cons_zero, List.getElem_cons_succ]
          refine wpAnyH_take (i := 7) (v := ?vtf8) rfl (by kernel_rfl) (by kernel_rfl) (by kernel_rfl) (fun _ _ _ h => h) (Or.inl ⟨by rfl, ?hytf8⟩) (by assumption) ?resttf8
          case hytf8 =>
            intro W hSw
            go_simp
            try with_reducible rfl
          simp only [Act.put, List.setIfInBounds_toArray, List.set_cons_zero, List.set_cons_succ, List.getElem_toArray, List.getElem_cons_zero, List.getElem_cons_succ]
          refine wpAnyH_take (i := 8) (v := ?vtf9) rfl (by kernel_rfl) (by kernel_rfl) (by kernel_rfl) (fun _ _ _ h => h) (Or.inl ⟨by rfl, ?hytf9⟩) (by assumption) ?resttf9
          case hytf9 =>
            intro W hSw
            go_simp
            try with_reducible rfl
          simp only [Act.put, List.setIfInBounds_toArray, List.set_cons_zero, List.set_cons_succ, List.getElem_toArray, List.getElem_cons_zero, List.getElem_cons_succ]
          refine wpAnyH_take (i := 9) (v := ?vtf10) rfl (by kernel_rfl) (by kernel_rfl) (by kernel_rfl) (fun _ _ _ h => h) (Or.inl ⟨by rfl, ?hytf10⟩) (by assumption) ?resttf10
          case hytf10 =>
            intro W hSw
            go_simp
            try with_reducible rfl
          simp only [Act.put, List.setIfInBounds_toArray, List.set_cons_zero, List.set_cons_succ, List.getElem_toArray, List.getElem_cons_zero, List.getElem_cons_succ]
          refine wpAnyH_take (i := 10) (v := ?vtf11) rfl (by kernel_rfl) (by kernel_rfl) (by kernel_rfl) (fun _ _ _ h => h) (Or.inl ⟨by rfl, ?hytf11⟩) (by assumption) ?resttf11
          case hytf11 =>
            intro W hSw
            have ce := ((hSw.2).cell (p := ⟨b, off + r * 3 + 2, none⟩) HBb.out).trans K2.out
            go_simp
            try with_reducible rfl
          simp only [Act.put, List.setIfInBounds_toArray, List.set_cons_zero, List.set_cons_succ, List.getElem_toArray, List.getElem_cons_zero, List.getElem_cons_succ]
          refine wpAnyH_ready (rs := [11]) (by kernel_rfl) (by simp) ?_
          refine AllReadyH.cons rfl (fun K hK => ?_) AllReadyH.nil
          go_simp
          refine (etake g _ _ _ _ p x _ hetfd HPL.out HXL.out).mono ?_
          rintro e tf12 ⟨q2, rfl, hl9, hetf12, hq⟩
          have hq2 : gk < q2 := Nat.lt_of_lt_of_le ((hHeld.1).lt (by omega)) hl9
          have hlq2 : w.heap.size ≤ q2 := by omega
          clear hl9
          go_wp2_with fail
          refine hK.out _ _ ⟨(hHeld.1).but hq (On.ne (by omega)), (hHeld.2).trans (hq.on (hHeld.2).size (by omega))⟩ (fun hHeld2 => ?_)
          clear hK K hHeld hq hetfd
          have hHeld := hHeld2
          clear hHeld2
          try simp only [Act.put, List.setIfInBounds_toArray, List.set_cons_zero, List.set_cons_succ, List.getElem_toArray, List.getElem_cons_zero, List.getElem_cons_succ]
          refine wpAnyH_done (by kernel_rfl) ?_ _
          have hKtf12 := hHeld.1
          have hBtf12 := hHeld.2
          clear hHeld
          refine NoPanic.normal ?_
          try dsimp only [Act.put]
          go_upto_region 13 with fail
          refine wp_region_noPanic ?_
          have hesfd := hetf12.drew
          have hKsfd := hKtf12.drew
          refine wp_region_held_drew (S := fun W => Below w.heap.size w W) (by kernel_rfl) hBtf12.drew (fun hHeld => ?_)
          clear hBtf12 hetf12 hKtf12
          generalize World.drew tf12 = sfd at *
          refine wpAnyH_take (i := 0) (v := ?vsf1) rfl (by kernel_rfl) (by kernel_rfl) (by kernel_rfl) (fun _ _ _ h => h) (Or.inl ⟨by rfl, ?hysf1⟩) (by assumption) ?restsf1
          case hysf1 =>
            intro W hSw
            go_simp
            try with_reducible rfl
          simp only [Act.put, List.setIfInBounds_toArray, List.set_cons_zero, List.set_cons_succ, List.getElem_toArray, List.getElem_cons_zero]
          refine wpAnyH_take (i := 1) (v := ?vsf2) rfl (by kernel_rfl) (by kernel_rfl) (by kernel_rfl) (fun _ _ _ h => h) (Or.inl ⟨by rfl, ?hysf2⟩) (by assumption) ?restsf2
          case hysf2 =>
            intro W hSw
            go_simp
            try with_reducible rfl
          simp only [Act.put, List.setIfInBounds_toArray, List.set_cons_zero, List.set_cons_succ, List.getElem_toArray, List.getElem_cons_zero, List.getElem_cons_succ]
          refine wpAnyH_take (i := 2) (v := ?vsf3) rfl (by kernel_rfl) (by kernel_rfl) (by kernel_rfl) (fun _ _ _ h => h) (Or.inl ⟨by rfl, ?hysf3⟩) (by assumption) ?restsf3
          case hysf3 =>
            intro W hSw
            go_simp
            try with_reducible rfl
          simp only [Act.put, List.setIfInBounds_toArray, List.set_cons_zero, List.set_cons_succ, List.getElem_toArray, List.getElem_cons_zero, List.getElem_cons_succ]
          refine wpAnyH_take (i := 3) (v := ?vsf4) rfl (by kernel_rfl) (by kernel_rfl) (by kernel_rfl) (fun _ _ _ h => h) (Or.inl ⟨by rfl, ?hysf4⟩) (by assumption) ?restsf4
          case hysf4 =>
            intro W hSw
            go_simp
            try with_reducible rfl
          simp only [Act.put, List.setIfInBounds_toArray, List.set_cons_zero, List.set_cons_succ, List.getElem_toArray, List.getElem_cons_zero, List.getElem_cons_succ]
          refine wpAnyH_take (i := 4) (v := ?vsf5) rfl (by kernel_rfl) (by kernel_rfl) (by kernel_rfl) (fun _ _ _ h => h) (Or.inl ⟨by rfl, ?hysf5⟩) (by assumption) ?restsf5
          case hysf5 =>
            intro W hSw
            have ce := (hSw.cell (p := ⟨b, off + r * 3 + 1, none⟩) HBb.out).trans K1.out
            go_simp
            try with_reducible rfl
          simp only [Act.put, List.setIfInBounds_toArray, List.set_cons_zero, List.set_cons_succ, List.getElem_toArray, List.getElem_cons_zero, List.getElem_cons_succ]
          refine wpAnyH_take (i := 5) (v := ?vsf6) rfl (by kernel_rfl) (by kernel_rfl) (by kernel_rfl) (fun _ _ _ h => h) (Or.inl ⟨by rfl, ?hysf6⟩) (by assumption) ?restsf6
          case hysf6 =>
            intro W hSw
            have i8 := HWP.out
            go_simp
            try with_reducible rfl
          simp only [Act.put, List.setIfInBounds_toArray, List.set_cons_zero, List.set_cons_succ, List.getElem_toArray, List.getElem_cons_zero, List.getElem_cons_succ]
          refine wpAnyH_take (i := 6) (v := ?vsf7) rfl (by kernel_rfl) (by kernel_rfl) (by kernel_rfl) (fun _ _ _ h => h) (Or.inl ⟨by rfl, ?hysf7⟩) (by assumption) ?restsf7
          case hysf7 =>
            intro W hSw
            go_simp
            try with_reducible rfl
          simp only [Act.put, List.setIfInBounds_toArray, List.set_cons_zero, List.set_cons_succ, List.getElem_toArray, List.getElem_cons_zero, List.getElem_cons_succ]
          refine wpAnyH_take (i := 7) (v := ?vsf8) rfl (by kernel_rfl) (by kernel_rfl) (by kernel_rfl) (fun _ _ _ h => h) (Or.inl ⟨by rfl, ?hysf8⟩) (by assumption) ?restsf8
          case hysf8 =>
            intro W hSw
            go_simp
            try with_reducible rfl
          simp only [Act.put, List.setIfInBounds_toArray, List.set_cons_zero, List.set_cons_succ, List.getElem_toArray, List.getElem_cons_zero, List.getElem_cons_succ]
          refine wpAnyH_take (i := 8) (v := ?vsf9) rfl (by kernel_rfl) (by kernel_rfl) (by kernel_rfl) (fun _ _ _ h => h) (Or.inl ⟨by rfl, ?hysf9⟩) (by assumption) ?restsf9
          case hysf9 =>
            intro W hSw
            go_simp
            try with_reducible rfl
          simp only [Act.put, List.setIfInBounds_toArray, List.set_cons_zero, List.set_cons_succ, List.getElem_toArray, List.getElem_cons_zero, List.getElem_cons_succ]
          refine wpAnyH_take (i := 9) (v := ?vsf10) rfl (by kernel_rfl) (by kernel_rfl) (by kernel_rfl) (fun _ _ _ h => h) (Or.inl ⟨by rfl, ?hysf10⟩) (by assumption) ?restsf10
          case hysf10 =>
            intro W hSw
            go_simp
            try with_reducible rfl
          simp only [Act.put, List.setIfInBounds_toArray, List.set_cons_zero, List.set_cons_succ, List.getElem_toArray, List.getElem_cons_zero, List.getElem_cons_succ]
          refine wpAnyH_take (i := 10) (v := ?vsf11) rfl (by kernel_rfl) (by kernel_rfl) (by kernel_rfl) (fun _ _ _ h => h) (Or.inl ⟨by rfl, ?hysf11⟩) (by assumption) ?restsf11
          case hysf11 =>
            intro W hSw
            have ce := (hSw.cell (p := ⟨b, off + r * 3 + 2, none⟩) HBb.out).trans K2.out
            go_simp
            try with_reducible rfl
          simp only [Act.put, List.setIfInBounds_toArray, List.set_cons_zero, List.set_cons_succ, List.getElem_toArray, List.getElem_cons_zero, List.getElem_cons_succ]
          refine wpAnyH_take (i := 11) (v := ?vsf12) rfl (by kernel_rfl) (by kernel_rfl) (by kernel_rfl) (fun _ _ _ h => h) (Or.inl ⟨by rfl, ?hysf12⟩) (by assumption) ?restsf12
          case hysf12 =>
            intro W hSw
            go_simp
            try with_reducible rfl
          simp only [Act.put, List.setIfInBounds_toArray, List.set_cons_zero, List.set_cons_succ, List.getElem_toArray, List.getElem_cons_zero, List.getElem_cons_succ]
          refine wpAnyH_ready (rs := [12]) (by kernel_rfl) (by simp) ?_
          refine AllReadyH.cons rfl (fun K hK => ?_) AllReadyH.nil
          rw [if_pos (by rfl)]
          refine wp_store_mid _ _ _ rfl gk 0 ([.bool true, .int .i64 (p : Int), .int .u64 (x : Int)] : List Value).toArray rfl rfl (hKsfd.there 0 3 (by omega)) (by kernel_rfl) (all_oneCell_toArray (kp_one true p x)) ?_
          have hb2 : But (On gk) sfd (World.setCells sfd gk 0 [.bool true, .int .i64 (p : Int), .int .u64 (x : Int)]) := But.sets (S := On gk) rfl _ 0 (But.refl _ _)
          have hesf13 := hesfd.but hb2 (On.ne (by omega)) (fun _ => On.ne (by omega))
          have hKsf13 := kp_put (z2 := true) (s2 := p) (t2 := x) hKsfd
          have hBsf13 := hHeld.trans (hb2.on hHeld.size (by omega))
          dsimp only [List.toList_toArray]
          generalize World.setCells sfd gk 0 [.bool true, .int .i64 (p : Int), .int .u64 (x : Int)] = sf13 at *
          refine hK.out _ _ hBsf13 (fun hHeld2 => ?_)
          clear hK K hHeld hb2 hBsf13 hesfd hKsfd
          have hHeld := hHeld2
          clear hHeld2
          try simp only [Act.put]
          refine wpAnyH_done (by kernel_rfl) ?_ _
          have hBsf13 := hHeld
          clear hHeld
          refine NoPanic.normal ?_
          try dsimp only [Act.put]
          go_wp2_with fail
          go_round
          case rel => exact ⟨r + 1, q2, p, x, true, by omega, by go_num, Lib.hid (fun _ => hq2), hesf13, hKsf13, hBsf13⟩
          case measure => simp [intOf]; omega
      | true =>
        have hq0 : gk < q := H1.out rfl
        obtain ⟨N, hN⟩ : ∃ N, hdE T true probe = N := ⟨_, rfl⟩
        have HN := Lib.hid hN
        have HN2 := Lib.hid (show probe - T = N from hN)
        clear hN
        go_wp2_with fail
        refine (eheld g _ _ _ _ probe _ hegwr HPB.out).mono ?_
        rintro e w9 ⟨rfl, hv9⟩
        rw [hv9]
        clear hv9 w9
        rw [show hdE T true probe = N from HN.out]
        have c0 := (hKwr 0 (by omega)).1
        have c1 := (hKwr 1 (by omega)).1
        have c2 := (hKwr 2 (by omega)).1
        simp only [kpF] at c0 c1 c2
        go_wp2_with fail
        refine (rheld true S T probe _ HPB.out).mono ?_
        rintro e x6 ⟨rfl, hq⟩
        have hegx6 := (hegwr).to hq
        have hKx6 := (hKwr).to (by omega) hq
        have hBx6 := hBwr.trans (hq.mono hBwr.size)
        clear c0 c1 c2
        clear hq hBwr hegwr hKwr
        rw [HN2.out]
        have ce := (hBx6.cell (p := ⟨b, off + r * 3, none⟩) HBb.out).trans k0
        cases zr with
        | false =>
          go_upto_region 14 with fail
          try clear c0 c1 c2
          clear ce
          have hex6 := hegx6
          clear hegx6
          obtain ⟨A, hA⟩ : ∃ A, rpE S T true x = A := ⟨_, rfl⟩
          have hA2 : A < 65536 := by rw [← hA]; exact rpE_lt _ _ _ _
          have HA := Lib.hid hA
          have HWA := Lib.hid (show IntKind.i64.wrap (A : Int) = (A : Int) by rw [IntKind.wrap_i64]; omega)
          clear hA
          refine wp_region_noPanic ?_
          have heptd := hex6.drew
          refine wp_region_held_drew (S := fun W => Cx W gk 3 (kpF true S T) ∧ Below w.heap.size w W) (by kernel_rfl) ⟨hKx6.drew, hBx6.drew⟩ (fun hHeld => ?_)
          clear hKx6 hBx6 hex6
          generalize World.drew x6 = ptd at *
          refine wpAnyH_take (i := 0) (v := ?vpt1) rfl (by kernel_rfl) (by kernel_rfl) (by kernel_rfl) (fun _ _ _ h => h) (Or.inl ⟨by rfl, ?hypt1⟩) (by assumption) ?restpt1
          case hypt1 =>
            intro W hSw
            go_simp
            try with_reducible rfl
          simp only [Act.put, List.setIfInBounds_toArray, List.set_cons_zero, List.set_cons_succ, List.getElem_toArray, List.getElem_cons_zero]
          refine wpAnyH_take (i := 1) (v := ?vpt2) rfl (by kernel_rfl) (by kernel_rfl) (by kernel_rfl) (fun _ _ _ h => h) (Or.inl ⟨by rfl, ?hypt2⟩) (by assumption) ?restpt2
          case hypt2 =>
            intro W hSw
            go_simp
            try with_reducible rfl
          simp only [Act.put, List.setIfInBounds_toArray, List.set_cons_zero, List.set_cons_succ, List.getElem_toArray, List.getElem_cons_zero, List.getElem_cons_succ]
          refine wpAnyH_take (i := 2) (v := ?vpt3) rfl (by kernel_rfl) (by kernel_rfl) (by kernel_rfl) (fun _ _ _ h => h) (Or.inl ⟨by rfl, ?hypt3⟩) (by assumption) ?restpt3
          case hypt3 =>
            intro W hSw
            go_simp
            try with_reducible rfl
          simp only [Act.put, List.setIfInBounds_toArray, List.set_cons_zero, List.set_cons_succ, List.getElem_toArray, List.getElem_cons_zero, List.getElem_cons_succ]
          refine wpAnyH_take (i := 3) (v := ?vpt4) rfl (by kernel_rfl) (by kernel_rfl) (by kernel_rfl) (fun _ _ _ h => h) (Or.inl ⟨by rfl, ?hypt4⟩) (by assumption) ?restpt4
          case hypt4 =>
            intro W hSw
            go_simp
            try with_reducible rfl
          simp only [Act.put, List.setIfInBounds_toArray, List.set_cons_zero, List.set_cons_succ, List.getElem_toArray, List.getElem_cons_zero, List.getElem_cons_succ]
          refine wpAnyH_take (i := 4) (v := ?vpt5) rfl (by kernel_rfl) (by kernel_rfl) (by kernel_rfl) (fun _ _ _ h => h) (Or.inl ⟨by rfl, ?hypt5⟩) (by assumption) ?restpt5
          case hypt5 =>
            intro W hSw
            go_simp
            try with_reducible rfl
          simp only [Act.put, List.setIfInBounds_toArray, List.set_cons_zero, List.set_cons_succ, List.getElem_toArray, List.getElem_cons_zero, List.getElem_cons_succ]
          refine wpAnyH_take (i := 5) (v := ?vpt6) rfl (by kernel_rfl) (by kernel_rfl) (by kernel_rfl) (fun _ _ _ h => h) (Or.inl ⟨by rfl, ?hypt6⟩) (by assumption) ?restpt6
          case hypt6 =>
            intro W hSw
            have ce := ((hSw.2).cell (p := ⟨b, off + r * 3 + 2, none⟩) HBb.out).trans K2.out
            go_simp
            try with_reducible rfl
          simp only [Act.put, List.setIfInBounds_toArray, List.set_cons_zero, List.set_cons_succ, List.getElem_toArray, List.getElem_cons_zero, List.getElem_cons_succ]
          refine wpAnyH_take (i := 8) (v := .agg ([.bool true, .int .i64 (S : Int), .int .u64 (T : Int)]).toArray) rfl (by kernel_rfl) (by kernel_rfl) (by kernel_rfl) (fun _ _ _ h => h) (yieldsIf_load_mid (by rfl) _ _ rfl gk (0) rfl ([.bool true, .int .i64 (S : Int), .int .u64 (T : Int)]) _ (fun W hSw => kp_range (hSw.1)) HU.out HUD.out (by kernel_rfl)) (by assumption) ?_
          simp only [Act.put, List.setIfInBounds_toArray, List.set_cons_zero, List.set_cons_succ, List.getElem_toArray, List.getElem_cons_zero, List.getElem_cons_succ]
          refine wpAnyH_take (i := 9) (v := ?vpt7) rfl (by kernel_rfl) (by kernel_rfl) (by kernel_rfl) (fun _ _ _ h => h) (Or.inl ⟨by rfl, ?hypt7⟩) (by assumption) ?restpt7
          case hypt7 =>
            intro W hSw
            go_simp
            try with_reducible rfl
          simp only [Act.put, List.setIfInBounds_toArray, List.set_cons_zero, List.set_cons_succ, List.getElem_toArray, List.getElem_cons_zero, List.getElem_cons_succ]
          refine wpAnyH_take (i := 10) (v := ?vpt8) rfl (by kernel_rfl) (by kernel_rfl) (by kernel_rfl) (fun _ _ _ h => h) (Or.inl ⟨by rfl, ?hypt8⟩) (by assumption) ?restpt8
          case hypt8 =>
            intro W hSw
            go_simp
            try with_reducible rfl
          simp only [Act.put, List.setIfInBounds_toArray, List.set_cons_zero, List.set_cons_succ, List.getElem_toArray, List.getElem_cons_zero, List.getElem_cons_succ]
          refine wpAnyH_take (i := 11) (v := ?vpt9) rfl (by kernel_rfl) (by kernel_rfl) (by kernel_rfl) (fun _ _ _ h => h) (Or.inl ⟨by rfl, ?hypt9⟩) (by assumption) ?restpt9
          case hypt9 =>
            intro W hSw
            go_simp
            try with_reducible rfl
          simp only [Act.put, List.setIfInBounds_toArray, List.set_cons_zero, List.set_cons_succ, List.getElem_toArray, List.getElem_cons_zero, List.getElem_cons_succ]
          refine wpAnyH_take (i := 12) (v := ?vpt10) rfl (by kernel_rfl) (by kernel_rfl) (by kernel_rfl) (fun _ _ _ h => h) (Or.inl ⟨by rfl, ?hypt10⟩) (by assumption) ?restpt10
          case hypt10 =>
            intro W hSw
            go_simp
            try with_reducible rfl
          simp only [Act.put, List.setIfInBounds_toArray, List.set_cons_zero, List.set_cons_succ, List.getElem_toArray, List.getElem_cons_zero, List.getElem_cons_succ]
          refine wpAnyH_take (i := 13) (v := ?vpt11) rfl (by kernel_rfl) (by kernel_rfl) (by kernel_rfl) (fun _ _ _ h => h) (Or.inl ⟨by rfl, ?hypt11⟩) (by assumption) ?restpt11
          case hypt11 =>
            intro W hSw
            have ce := ((hSw.2).cell (p := ⟨b, off + r * 3 + 2, none⟩) HBb.out).trans K2.out
            go_simp
            try with_reducible rfl
          simp only [Act.put, List.setIfInBounds_toArray, List.set_cons_zero, List.set_cons_succ, List.getElem_toArray, List.getElem_cons_zero, List.getElem_cons_succ]
          refine wpAnyH_ready (rs := [6]) (by kernel_rfl) (by simp) ?_
          refine AllReadyH.cons rfl (fun K hK => ?_) AllReadyH.nil
          go_simp
          refine (ereply g _ _ _ _ x _ heptd HXL.out).mono ?_
          rintro e pt12 ⟨rfl, hept12, hq⟩
          rw [HA.out]
          go_wp2_with fail
          refine hK.out _ _ ⟨(hHeld.1).but hq (On.ne (by omega)), (hHeld.2).trans (hq.on (hHeld.2).size (by omega))⟩ (fun hHeld2 => ?_)
          clear hK K hHeld hq heptd
          have hHeld := hHeld2
          clear hHeld2
          try simp only [Act.put, List.setIfInBounds_toArray, List.set_cons_zero, List.set_cons_succ, List.getElem_toArray, List.getElem_cons_zero, List.getElem_cons_succ]
          refine wpAnyH_take (i := 7) (v := ?vpt13) rfl (by kernel_rfl) (by kernel_rfl) (by kernel_rfl) (fun _ _ _ h => h) (Or.inl ⟨by rfl, ?hypt13⟩) (by assumption) ?restpt13
          case hypt13 =>
            intro W hSw
            have i8 := HWA.out
            go_simp
            try with_reducible rfl
          simp only [Act.put, List.setIfInBounds_toArray, List.set_cons_zero, List.set_cons_succ, List.getElem_toArray, List.getElem_cons_zero, List.getElem_cons_succ]
          refine wpAnyH_ready (rs := [14]) (by kernel_rfl) (by simp) ?_
          refine AllReadyH.cons rfl (fun K hK => ?_) AllReadyH.nil
          go_simp
          refine (rreply true S T x _ HXL.out HTOP.out.1).mono ?_
          rintro e pt14 ⟨rfl, hq⟩
          rw [HA.out]
          go_wp2_with fail
          have hept14 := (hept12).to hq
          refine hK.out _ _ ⟨(hHeld.1).to (by omega) hq, (hHeld.2).trans (hq.mono (hHeld.2).size)⟩ (fun hHeld2 => ?_)
          clear hK K hHeld hq hept12
          have hHeld := hHeld2
          clear hHeld2
          try simp only [Act.put, List.setIfInBounds_toArray, List.set_cons_zero, List.set_cons_succ, List.getElem_toArray, List.getElem_cons_zero, List.getElem_cons_succ]
          refine wpAnyH_take (i := 15) (v := ?vpt15) rfl (by kernel_rfl) (by kernel_rfl) (by kernel_rfl) (fun _ _ _ h => h) (Or.inl ⟨by rfl, ?hypt15⟩) (by assumption) ?restpt15
          case hypt15 =>
            intro W hSw
            go_simp
            try with_reducible rfl
          simp only [Act.put, List.setIfInBounds_toArray, List.set_cons_zero, List.set_cons_succ, List.getElem_toArray, List.getElem_cons_zero, List.getElem_cons_succ]
          refine wpAnyH_done (by kernel_rfl) ?_ _
          have hKpt14 := hHeld.1
          have hBpt14 := hHeld.2
          clear hHeld
          refine NoPanic.normal ?_
          try dsimp only [Act.put]
          have c0 := (hKpt14 0 (by omega)).1
          have z0 := (hKpt14 0 (by omega)).2
          simp only [kpF] at c0
          obtain ⟨pt14s, hy2⟩ : ∃ V : World, V = pt14.setCell ⟨gk, 0, none⟩ (.bool false) := ⟨_, rfl⟩
          have hq2 : But (On gk) pt14 pt14s := by rw [hy2]; exact (But.refl _ _).put 0 _
          have hept14s := hept14.but hq2 (On.ne (by omega)) (fun e => by cases e)
          have hKpt14s : Cx pt14s gk 3 (kpF false S T) := by
            rw [hy2]
            refine (hKpt14.set (.bool false) (by omega)).ext (fun j hj => ?_)
            have hj3 : j = 0 ∨ j = 1 ∨ j = 2 := by omega
            rcases hj3 with rfl | rfl | rfl <;> rfl
          have hBpt14s := hBpt14.trans (hq2.on hBpt14.size (by omega))
          go_upto_region 7 with fail
          rw [← hy2]
          clear hy2 hq2 hept14 hKpt14 hBpt14 c0 z0
          go_wp2_with fail
          go_round
          case rel => exact ⟨r + 1, q, S, T, false, by omega, by go_num, Lib.hid (fun e => by cases e), hept14s, hKpt14s, hBpt14s⟩
          case measure => simp [intOf]; omega
        | true =>
          go_upto_region 12 with fail
          try clear c0 c1 c2
          clear ce
          have hex6 := hegx6
          clear hegx6
          refine wp_region_noPanic ?_
          have hettd := hex6.drew
          refine wp_region_held_drew (S := fun W => Cx W gk 3 (kpF true S T) ∧ Below w.heap.size w W) (by kernel_rfl) ⟨hKx6.drew, hBx6.drew⟩ (fun hHeld => ?_)
          clear hKx6 hBx6 hex6
          generalize World.drew x6 = ttd at *
          refine wpAnyH_take (i := 0) (v := ?vtt1) rfl (by kernel_rfl) (by kernel_rfl) (by kernel_rfl) (fun _ _ _ h => h) (Or.inl ⟨by rfl, ?hytt1⟩) (by assumption) ?resttt1
          case hytt1 =>
            intro W hSw
            go_simp
            try with_reducible rfl
          simp only [Act.put, List.setIfInBounds_toArray, List.set_cons_zero, List.set_cons_succ, List.getElem_toArray, List.getElem_cons_zero]
          refine wpAnyH_take (i := 1) (v := ?vtt2) rfl (by kernel_rfl) (by kernel_rfl) (by kernel_rfl) (fun _ _ _ h => h) (Or.inl ⟨by rfl, ?hytt2⟩) (by assumption) ?resttt2
          case hytt2 =>
            intro W hSw
            go_simp
            try with_reducible rfl
          simp only [Act.put, List.setIfInBounds_toArray, List.set_cons_zero, List.set_cons_succ, List.getElem_toArray, List.getElem_cons_zero, List.getElem_cons_succ]
          refine wpAnyH_take (i := 2) (v := ?vtt3) rfl (by kernel_rfl) (by kernel_rfl) (by kernel_rfl) (fun _ _ _ h => h) (Or.inl ⟨by rfl, ?hytt3⟩) (by assumption) ?resttt3
          case hytt3 =>
            intro W hSw
            go_simp
            try with_reducible rfl
          simp only [Act.put, List.setIfInBounds_toArray, List.set_cons_zero, List.set_cons_succ, List.getElem_toArray, List.getElem_cons_zero, List.getElem_cons_succ]
          refine wpAnyH_take (i := 3) (v := ?vtt4) rfl (by kernel_rfl) (by kernel_rfl) (by kernel_rfl) (fun _ _ _ h => h) (Or.inl ⟨by rfl, ?hytt4⟩) (by assumption) ?resttt4
          case hytt4 =>
            intro W hSw
            go_simp
            try with_reducible rfl
          simp only [Act.put, List.setIfInBounds_toArray, List.set_cons_zero, List.set_cons_succ, List.getElem_toArray, List.getElem_cons_zero, List.getElem_cons_succ]
          refine wpAnyH_take (i := 4) (v := ?vtt5) rfl (by kernel_rfl) (by kernel_rfl) (by kernel_rfl) (fun _ _ _ h => h) (Or.inl ⟨by rfl, ?hytt5⟩) (by assumption) ?resttt5
          case hytt5 =>
            intro W hSw
            go_simp
            try with_reducible rfl
          simp only [Act.put, List.setIfInBounds_toArray, List.set_cons_zero, List.set_cons_succ, List.getElem_toArray, List.getElem_cons_zero, List.getElem_cons_succ]
          refine wpAnyH_take (i := 5) (v := ?vtt6) rfl (by kernel_rfl) (by kernel_rfl) (by kernel_rfl) (fun _ _ _ h => h) (Or.inl ⟨by rfl, ?hytt6⟩) (by assumption) ?resttt6
          case hytt6 =>
            intro W hSw
            have ce := ((hSw.2).cell (p := ⟨b, off + r * 3 + 1, none⟩) HBb.out).trans K1.out
            go_simp
            try with_reducible rfl
          simp only [Act.put, List.setIfInBounds_toArray, List.set_cons_zero, List.set_cons_succ, List.getElem_toArray, List.getElem_cons_zero, List.getElem_cons_succ]
          refine wpAnyH_take (i := 6) (v := ?vtt7) rfl (by kernel_rfl) (by kernel_rfl) (by kernel_rfl) (fun _ _ _ h => h) (Or.inl ⟨by rfl, ?hytt7⟩) (by assumption) ?resttt7
          case hytt7 =>
            intro W hSw
            go_simp
            try with_reducible rfl
          simp only [Act.put, List.setIfInBounds_toArray, List.set_cons_zero, List.set_cons_succ, List.getElem_toArray, List.getElem_cons_zero, List.getElem_cons_succ]
          refine wpAnyH_take (i := 7) (v := ?vtt8) rfl (by kernel_rfl) (by kernel_rfl) (by kernel_rfl) (fun _ _ _ h => h) (Or.inl ⟨by rfl, ?hytt8⟩) (by assumption) ?resttt8
          case hytt8 =>
            intro W hSw
            go_simp
            try with_reducible rfl
          simp only [Act.put, List.setIfInBounds_toArray, List.set_cons_zero, List.set_cons_succ, List.getElem_toArray, List.getElem_cons_zero, List.getElem_cons_succ]
          refine wpAnyH_take (i := 8) (v := ?vtt9) rfl (by kernel_rfl) (by kernel_rfl) (by kernel_rfl) (fun _ _ _ h => h) (Or.inl ⟨by rfl, ?hytt9⟩) (by assumption) ?resttt9
          case hytt9 =>
            intro W hSw
            go_simp
            try with_reducible rfl
          simp only [Act.put, List.setIfInBounds_toArray, List.set_cons_zero, List.set_cons_succ, List.getElem_toArray, List.getElem_cons_zero, List.getElem_cons_succ]
          refine wpAnyH_take (i := 9) (v := ?vtt10) rfl (by kernel_rfl) (by kernel_rfl) (by kernel_rfl) (fun _ _ _ h => h) (Or.inl ⟨by rfl, ?hytt10⟩) (by assumption) ?resttt10
          case hytt10 =>
            intro W hSw
            go_simp
            try with_reducible rfl
          simp only [Act.put, List.setIfInBounds_toArray, List.set_cons_zero, List.set_cons_succ, List.getElem_toArray, List.getElem_cons_zero, List.getElem_cons_succ]
          refine wpAnyH_take (i := 10) (v := ?vtt11) rfl (by kernel_rfl) (by kernel_rfl) (by kernel_rfl) (fun _ _ _ h => h) (Or.inl ⟨by rfl, ?hytt11⟩) (by assumption) ?resttt11
          case hytt11 =>
            intro W hSw
            have ce := ((hSw.2).cell (p := ⟨b, off + r * 3 + 2, none⟩) HBb.out).trans K2.out
            go_simp
            try with_reducible rfl
          simp only [Act.put, List.setIfInBounds_toArray, List.set_cons_zero, List.set_cons_succ, List.getElem_toArray, List.getElem_cons_zero, List.getElem_cons_succ]
          refine wpAnyH_ready (rs := [11]) (by kernel_rfl) (by simp) ?_
          refine AllReadyH.cons rfl (fun K hK => ?_) AllReadyH.nil
          go_simp
          refine (etake g _ _ _ _ p x _ hettd HPL.out HXL.out).mono ?_
          rintro e tt12 ⟨q2, rfl, hl9, hett12, hq⟩
          have hq2 : gk < q2 := Nat.lt_of_lt_of_le ((hHeld.1).lt (by omega)) hl9
          have hlq2 : w.heap.size ≤ q2 := by omega
          clear hl9
          go_wp2_with fail
          refine hK.out _ _ ⟨(hHeld.1).but hq (On.ne (by omega)), (hHeld.2).trans (hq.on (hHeld.2).size (by omega))⟩ (fun hHeld2 => ?_)
          clear hK K hHeld hq hettd
          have hHeld := hHeld2
          clear hHeld2
          try simp only [Act.put, List.setIfInBounds_toArray, List.set_cons_zero, List.set_cons_succ, List.getElem_toArray, List.getElem_cons_zero, List.getElem_cons_succ]
          refine wpAnyH_done (by kernel_rfl) ?_ _
          have hKtt12 := hHeld.1
          have hBtt12 := hHeld.2
          clear hHeld
          refine NoPanic.normal ?_
          try dsimp only [Act.put]
          go_upto_region 13 with fail
          refine wp_region_noPanic ?_
          have hestd := hett12.drew
          have hKstd := hKtt12.drew
          refine wp_region_held_drew (S := fun W => Below w.heap.size w W) (by kernel_rfl) hBtt12.drew (fun hHeld => ?_)
          clear hBtt12 hett12 hKtt12
          generalize World.drew tt12 = std at *
          refine wpAnyH_take (i := 0) (v := ?vst1) rfl (by kernel_rfl) (by kernel_rfl) (by kernel_rfl) (fun _ _ _ h => h) (Or.inl ⟨by rfl, ?hyst1⟩) (by assumption) ?restst1
          case hyst1 =>
            intro W hSw
            go_simp
            try with_reducible rfl
          simp only [Act.put, List.setIfInBounds_toArray, List.set_cons_zero, List.set_cons_succ, List.getElem_toArray, List.getElem_cons_zero]
          refine wpAnyH_take (i := 1) (v := ?vst2) rfl (by kernel_rfl) (by kernel_rfl) (by kernel_rfl) (fun _ _ _ h => h) (Or.inl ⟨by rfl, ?hyst2⟩) (by assumption) ?restst2
          case hyst2 =>
            intro W hSw
            go_simp
            try with_reducible rfl
          simp only [Act.put, List.setIfInBounds_toArray, List.set_cons_zero, List.set_cons_succ, List.getElem_toArray, List.getElem_cons_zero, List.getElem_cons_succ]
          refine wpAnyH_take (i := 2) (v := ?vst3) rfl (by kernel_rfl) (by kernel_rfl) (by kernel_rfl) (fun _ _ _ h => h) (Or.inl ⟨by rfl, ?hyst3⟩) (by assumption) ?restst3
          case hyst3 =>
            intro W hSw
            go_simp
            try with_reducible rfl
          simp only [Act.put, List.setIfInBounds_toArray, List.set_cons_zero, List.set_cons_succ, List.getElem_toArray, List.getElem_cons_zero, List.getElem_cons_succ]
          refine wpAnyH_take (i := 3) (v := ?vst4) rfl (by kernel_rfl) (by kernel_rfl) (by kernel_rfl) (fun _ _ _ h => h) (Or.inl ⟨by rfl, ?hyst4⟩) (by assumption) ?restst4
          case hyst4 =>
            intro W hSw
            go_simp
            try with_reducible rfl
          simp only [Act.put, List.setIfInBounds_toArray, List.set_cons_zero, List.set_cons_succ, List.getElem_toArray, List.getElem_cons_zero, List.getElem_cons_succ]
          refine wpAnyH_take (i := 4) (v := ?vst5) rfl (by kernel_rfl) (by kernel_rfl) (by kernel_rfl) (fun _ _ _ h => h) (Or.inl ⟨by rfl, ?hyst5⟩) (by assumption) ?restst5
          case hyst5 =>
            intro W hSw
            have ce := (hSw.cell (p := ⟨b, off + r * 3 + 1, none⟩) HBb.out).trans K1.out
            go_simp
            try with_reducible rfl
          simp only [Act.put, List.setIfInBounds_toArray, List.set_cons_zero, List.set_cons_succ, List.getElem_toArray, List.getElem_cons_zero, List.getElem_cons_succ]
          refine wpAnyH_take (i := 5) (v := ?vst6) rfl (by kernel_rfl) (by kernel_rfl) (by kernel_rfl) (fun _ _ _ h => h) (Or.inl ⟨by rfl, ?hyst6⟩) (by assumption) ?restst6
          case hyst6 =>
            intro W hSw
            have i8 := HWP.out
            go_simp
            try with_reducible rfl
          simp only [Act.put, List.setIfInBounds_toArray, List.set_cons_zero, List.set_cons_succ, List.getElem_toArray, List.getElem_cons_zero, List.getElem_cons_succ]
          refine wpAnyH_take (i := 6) (v := ?vst7) rfl (by kernel_rfl) (by kernel_rfl) (by kernel_rfl) (fun _ _ _ h => h) (Or.inl ⟨by rfl, ?hyst7⟩) (by assumption) ?restst7
          case hyst7 =>
            intro W hSw
            go_simp
            try with_reducible rfl
          simp only [Act.put, List.setIfInBounds_toArray, List.set_cons_zero, List.set_cons_succ, List.getElem_toArray, List.getElem_cons_zero, List.getElem_cons_succ]
          refine wpAnyH_take (i := 7) (v := ?vst8) rfl (by kernel_rfl) (by kernel_rfl) (by kernel_rfl) (fun _ _ _ h => h) (Or.inl ⟨by rfl, ?hyst8⟩) (by assumption) ?restst8
          case hyst8 =>
            intro W hSw
            go_simp
            try with_reducible rfl
          simp only [Act.put, List.setIfInBounds_toArray, List.set_cons_zero, List.set_cons_succ, List.getElem_toArray, List.getElem_cons_zero, List.getElem_cons_succ]
          refine wpAnyH_take (i := 8) (v := ?vst9) rfl (by kernel_rfl) (by kernel_rfl) (by kernel_rfl) (fun _ _ _ h => h) (Or.inl ⟨by rfl, ?hyst9⟩) (by assumption) ?restst9
          case hyst9 =>
            intro W hSw
            go_simp
            try with_reducible rfl
          simp only [Act.put, List.setIfInBounds_toArray, List.set_cons_zero, List.set_cons_succ, List.getElem_toArray, List.getElem_cons_zero, List.getElem_cons_succ]
          refine wpAnyH_take (i := 9) (v := ?vst10) rfl (by kernel_rfl) (by kernel_rfl) (by kernel_rfl) (fun _ _ _ h => h) (Or.inl ⟨by rfl, ?hyst10⟩) (by assumption) ?restst10
          case hyst10 =>
            intro W hSw
            go_simp
            try with_reducible rfl
          simp only [Act.put, List.setIfInBounds_toArray, List.set_cons_zero, List.set_cons_succ, List.getElem_toArray, List.getElem_cons_zero, List.getElem_cons_succ]
          refine wpAnyH_take (i := 10) (v := ?vst11) rfl (by kernel_rfl) (by kernel_rfl) (by kernel_rfl) (fun _ _ _ h => h) (Or.inl ⟨by rfl, ?hyst11⟩) (by assumption) ?restst11
          case hyst11 =>
            intro W hSw
            have ce := (hSw.cell (p := ⟨b, off + r * 3 + 2, none⟩) HBb.out).trans K2.out
            go_simp
            try with_reducible rfl
          simp only [Act.put, List.setIfInBounds_toArray, List.set_cons_zero, List.set_cons_succ, List.getElem_toArray, List.getElem_cons_zero, List.getElem_cons_succ]
          refine wpAnyH_take (i := 11) (v := ?vst12) rfl (by kernel_rfl) (by kernel_rfl) (by kernel_rfl) (fun _ _ _ h => h) (Or.inl ⟨by rfl, ?hyst12⟩) (by assumption) ?restst12
          case hyst12 =>
            intro W hSw
            go_simp
            try with_reducible rfl
          simp only [Act.put, List.setIfInBounds_toArray, List.set_cons_zero, List.set_cons_succ, List.getElem_toArray, List.getElem_cons_zero, List.getElem_cons_succ]
          refine wpAnyH_ready (rs := [12]) (by kernel_rfl) (by simp) ?_
          refine AllReadyH.cons rfl (fun K hK => ?_) AllReadyH.nil
          rw [if_pos (by rfl)]
          refine wp_store_mid _ _ _ rfl gk 0 ([.bool true, .int .i64 (p : Int), .int .u64 (x : Int)] : List Value).toArray rfl rfl (hKstd.there 0 3 (by omega)) (by kernel_rfl) (all_oneCell_toArray (kp_one true p x)) ?_
          have hb2 : But (On gk) std (World.setCells std gk 0 [.bool true, .int .i64 (p : Int), .int .u64 (x : Int)]) := But.sets (S := On gk) rfl _ 0 (But.refl _ _)
          have hest13 := hestd.but hb2 (On.ne (by omega)) (fun _ => On.ne (by omega))
          have hKst13 := kp_put (z2 := true) (s2 := p) (t2 := x) hKstd
          have hBst13 := hHeld.trans (hb2.on hHeld.size (by omega))
          dsimp only [List.toList_toArray]
          generalize World.setCells std gk 0 [.bool true, .int .i64 (p : Int), .int .u64 (x : Int)] = st13 at *
          refine hK.out _ _ hBst13 (fun hHeld2 => ?_)
          clear hK K hHeld hb2 hBst13 hestd hKstd
          have hHeld := hHeld2
          clear hHeld2
          try simp only [Act.put]
          refine wpAnyH_done (by kernel_rfl) ?_ _
          have hBst13 := hHeld
          clear hHeld
          refine NoPanic.normal ?_
          try dsimp only [Act.put]
          go_wp2_with fail
          go_round
          case rel => exact ⟨r + 1, q2, p, x, true, by omega, by go_num, Lib.hid (fun _ => hq2), hest13, hKst13, hBst13⟩
          case measure => simp [intOf]; omega
    · have i2 : ¬ (r : Int) < (n : Int) := by omega
      go_wp2_with fail
      go_ret
      exact ⟨rfl, hBwr⟩
end Go.Proofs.Ytmfmcbghofcafaa
