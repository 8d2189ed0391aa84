/-
  Contract of the reference's table, by a walk through its text; what was there stays as it was.
-/
import Derived.Test.YtghcpfcomhfppaaDoorSbr
import Derived.Deep.RegionHeld3
namespace Go.Proofs.YtghcpfcomhfppaaDoor
open Go.RowKit
set_option linter.unusedVariables false
set_option maxRecDepth 10000

theorem two_cells {W : World} {a b : Addr} {x y : Value} (h : W.cell? a = some x ∧ W.cell? b = some y) {p : Addr} (hp : p.block ≠ a.block) (hq : p.block ≠ b.block) (v : Value) :
    (W.setCell p v).cell? a = some x ∧ (W.setCell p v).cell? b = some y :=
  ⟨(World.cell?_setCell_other _ _ _ _ (fun e => hp (by rw [e]))).trans h.1, (World.cell?_setCell_other _ _ _ _ (fun e => hq (by rw [e]))).trans h.2⟩
theorem p3F_step (n : Nat) : ∀ j, j < 256 → (fun i => if i = n then p3 n else (fun i => if i < n then p3 i else 0) i) j = (fun i => if i < n + 1 then p3 i else 0) j := by
  intro j _
  by_cases h : j = n
  · simp [h]
  · by_cases h2 : j < n
    · simp [h, h2, show j < n + 1 by omega]
    · simp [h, h2, show ¬ j < n + 1 by omega]

set_option maxHeartbeats 3200000 in
theorem reftable (w : World) :
    Calls Tryd.prog 14 #[] w fun e w' => e = .returned (.agg boxA) ∧ Below w.heap.size w w' := by
  have hz := zero256
  obtain ⟨w1, hw1⟩ : ∃ w1 : World, w1 = w.alloc (.cells (arL 256 fun _ => 0).toArray 27) := ⟨_, rfl⟩
  have hs1 : w1.heap.size = w.heap.size + 1 := by rw [hw1]; simp
  have hb1 : Below w.heap.size w w1 := by rw [hw1]; exact (Below.refl _ _).alloc (Nat.le_refl _) _
  have hA : Ar w1 w.heap.size 256 (fun _ => 0) := by rw [hw1]; exact Ar.new w 256 _ _
  obtain ⟨w2, hw2⟩ : ∃ w2 : World, w2 = w1.alloc (.cells (arL 256 fun _ => 0).toArray 27) := ⟨_, rfl⟩
  have hs2 : w2.heap.size = w.heap.size + 2 := by rw [hw2]; simp [hs1]
  have hb2 : Below w.heap.size w w2 := by rw [hw2]; exact hb1.alloc (by omega) _
  have hA1 : Ar w2 w1.heap.size 256 (fun _ => 0) := by rw [hw2]; exact Ar.new w1 256 _ _
  have hA0 : Ar w2 w.heap.size 256 (fun _ => 0) := by rw [hw2]; exact hA.alloc (by omega) _
  rw [hs1] at hA1
  clear hb1
  go_enter Tryd.func14, Tryd.ntmps14
  go_upto_region 2 with fail
  rw [← hw1, ← hw2]
  clear hw1 hw2 hA
  go_wp2_with fail
  go_loopw [2, 3] (fun x i wr => ∃ n : Nat, n ≤ 256 ∧ i = .int .i64 n ∧ x = .int .u8 (p3 n : Nat) ∧ Ar wr w.heap.size 256 (fun _ => 0) ∧ Ar wr (w.heap.size + 1) 256 (fun j => if j < n then p3 j else 0) ∧ Below w.heap.size w wr) (fun _ i _ => 256 - (intOf i).toNat)
  case atStart => exact ⟨0, Nat.zero_le _, rfl, rfl, hA0, hA1.ext (fun j _ => rfl), hb2⟩
  case round =>
    clear hA0 hA1 hb2 hs2
    obtain ⟨n, hn, rfl, rfl, hA0, hA1, hbel⟩ := hrel
    by_cases hlt : n < 256
    · obtain ⟨hc, hf⟩ := hA1 n hlt
      have hi2 : (n : Int) < 256 := by omega
      have hpl := p3_lt n
      have hB1 := (hA1.set (v := p3 n) hlt rfl).ext (p3F_step n)
      have hB0 := hA0.far (p := ⟨w.heap.size + 1, n, none⟩) (by simp) (.int .u8 (p3 n : Nat))
      have hB := hbel.setCell (p := ⟨w.heap.size + 1, n, none⟩) (by simp) (.int .u8 (p3 n : Nat))
      obtain ⟨w3, hw3⟩ : ∃ w3 : World, w3 = wr.setCell ⟨w.heap.size + 1, n, none⟩ (.int .u8 (p3 n : Nat)) := ⟨_, rfl⟩
      rw [← hw3] at hB1 hB0 hB
      clear hA0 hA1 hbel
      go_wp2_with fail
      rw [← hw3]
      clear hw3 hc hf
      refine (refmul (p3 n) 3 _ hpl (by omega)).mono ?_
      rintro e w4 ⟨rfl, hb4⟩
      have hC0 := hB0.to (by omega) hb4
      have hC1 := hB1.to (by omega) hb4
      have hb5 := hB.trans (hb4.mono hB.size)
      go_wp2_with fail
      go_roundw
      case rel => exact ⟨n + 1, by omega, by go_num, rfl, hC0, hC1, hb5⟩
      case measure => simp [intOf]; omega
    · obtain rfl : n = 256 := by omega
      have hA1 := hA1.ext (f' := p3) (fun j hj => by simp [hj])
      have hg1 := hA1.lt (by omega)
      obtain ⟨g, hg⟩ : ∃ g : Nat, wr.heap.size = g := ⟨_, rfl⟩
      obtain ⟨w5, hw5⟩ : ∃ w5 : World, w5 = wr.alloc (.cells (arL 256 fun _ => 0).toArray 27) := ⟨_, rfl⟩
      have hB0 : Ar w5 w.heap.size 256 (fun _ => 0) := by rw [hw5]; exact hA0.alloc (by omega) _
      have hB1 : Ar w5 (w.heap.size + 1) 256 p3 := by rw [hw5]; exact hA1.alloc (by omega) _
      have hBg : Ar w5 g 256 (fun _ => 0) := by rw [hw5, ← hg]; exact Ar.new wr 256 _ _
      have hB : Below w.heap.size w w5 := by rw [hw5]; exact hbel.alloc (by omega) _
      rw [hg] at hg1
      clear hA0 hA1 hbel
      go_wp2_with fail
      rw [← hw5]
      clear hw5 hg
      refine (refaff 0 _ (by omega)).mono ?_
      rintro e w' ⟨rfl, rfl⟩
      obtain ⟨hc, hf⟩ := hBg 0 (by omega)
      have hC0 := hB0.far (p := ⟨g, 0, none⟩) (by simp; omega) (.int .u8 (aff 0 : Nat))
      have hC1 := hB1.far (p := ⟨g, 0, none⟩) (by simp; omega) (.int .u8 (aff 0 : Nat))
      have hCg := hBg.set (v := aff 0) (j := 0) (by omega) rfl
      have hC := hB.setCell (p := ⟨g, 0, none⟩) (by simp; omega) (.int .u8 (aff 0 : Nat))
      obtain ⟨w6, hw6⟩ : ∃ w6 : World, w6 = w'.setCell ⟨g, 0, none⟩ (.int .u8 (aff 0 : Nat)) := ⟨_, rfl⟩
      rw [← hw6] at hC0 hC1 hCg hC
      clear hB0 hB1 hBg hB
      go_wp2_with fail
      rw [← hw6]
      clear hw6 hc hf
      go_loopw [5] (fun i ws => ∃ n : Nat, n ≤ 255 ∧ i = .int .i64 n ∧ Ar ws w.heap.size 256 (fun _ => 0) ∧ Ar ws (w.heap.size + 1) 256 p3 ∧ Ar ws g 256 (tb n) ∧ Below w.heap.size w ws) (fun i _ => 255 - (intOf i).toNat)
      case atStart => exact ⟨0, Nat.zero_le _, rfl, hC0, hC1, hCg, hC⟩
      case round =>
        clear hC0 hC1 hCg hC
        obtain ⟨n, hn, rfl, hC0, hC1, hCg, hC⟩ := hrel
        by_cases hlt : n < 255
        · obtain ⟨m, hm⟩ : ∃ m : Nat, m = 255 - n := ⟨_, rfl⟩
          have hwm : wrap64 (255 - (n : Int)) = (m : Int) := by rw [IntWalk.wrap64_in _ (by omega)]; omega
          have hwm2 : IntKind.i64.wrap (255 - (n : Int)) = (m : Int) := by rw [wraps_i64' _ (by omega) (by omega)]; omega
          have hi1 : (n : Int) < 256 := by omega
          have hi4 : (0 : Int) ≤ (m : Int) := by omega
          have hi2 : (m : Int) < 256 := by omega
          have hpn := p3_lt n
          have hpm := p3_lt m
          have hi3 : ((p3 n : Nat) : Int) < 256 := by omega
          have hM := Lib.hid hm
          have hc1 := (hC1 n (by omega)).1
          have hc2 := (hC1 m (by omega)).1
          obtain ⟨hc, hf⟩ := hCg (p3 n) hpn
          have hne : g ≠ w.heap.size + 1 := by omega
          clear hm
          have hN : (wr.setCell ⟨g, p3 n, none⟩ (.int .u8 (aff (p3 m) : Nat))).drew.cell? ⟨w.heap.size + 1, n, none⟩ = some (.int .u8 (p3 n : Nat)) ∧ (wr.setCell ⟨g, p3 n, none⟩ (.int .u8 (aff (p3 m) : Nat))).drew.cell? ⟨w.heap.size + 1, m, none⟩ = some (.int .u8 (p3 m : Nat)) :=
            two_cells (W := wr) (p := ⟨g, p3 n, none⟩) ⟨hc1, hc2⟩ hne hne _
          go_wp2_with fail
          go_region_held3 (fun W => W.cell? ⟨w.heap.size + 1, n, none⟩ = some (.int .u8 (p3 n : Nat)) ∧ W.cell? ⟨w.heap.size + 1, m, none⟩ = some (.int .u8 (p3 m : Nat)))
            (first | assumption | (exact ⟨hc1, hc2⟩) | (exact hN))
            (first
            | (go_at_call 30
               refine (refaff (p3 m) _ hpm).mono ?_
               rintro e w6 ⟨rfl, rfl⟩))
          have hD0 := hC0.far (p := ⟨g, p3 n, none⟩) (by simp; omega) (.int .u8 (aff (p3 m) : Nat))
          have hD1 := hC1.far (p := ⟨g, p3 n, none⟩) hne (.int .u8 (aff (p3 m) : Nat))
          have hDg := (hCg.set (v := aff (p3 m)) (j := p3 n) hpn rfl).ext (f' := tb (n + 1)) (fun j _ => by rw [tb, hM.out])
          have hD := hC.setCell (p := ⟨g, p3 n, none⟩) (by simp; omega) (.int .u8 (aff (p3 m) : Nat))
          go_wp2_with fail
          go_roundw
          case rel => exact ⟨n + 1, by omega, by go_num, hD0.drew, hD1.drew, hDg.drew, hD.drew⟩
          case measure => simp [intOf]; omega
        · obtain rfl : n = 255 := by omega
          have hDg := hCg.ext (f' := sb) (fun j hj => tb_all j hj)
          clear hCg
          go_wp2_with (first
            | (refine wpList_load_ar rfl _ _ rfl _ _ _ rfl hDg Tryd.arr256 (size_arL _) ?_)
            | (refine wpList_store_ar rfl _ _ _ rfl _ _ _ sb rfl rfl hC0 (size_arL _) ?_; intro w7 hA7 hb7 _ _))
          refine bodyPost_ret_ar rfl rfl hA7 Tryd.arr256 (size_arL _) rfl ⟨rfl, ?_⟩
          exact hC.trans hb7
end Go.Proofs.YtghcpfcomhfppaaDoor
