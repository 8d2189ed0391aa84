/-
  Contract of the round keys in the reference package of layer 5, by a walk through its text, for any key; what was there stays as it was.
-/
import Derived.Test.YtghcpfcomhfppaaDoorKew
import Derived.Test.YtghcpfcomhfppaaDoorKeg
namespace Go.Proofs.YtghcpfcomhfppaaDoor
open Go.RowKit
set_option linter.unusedVariables false
set_option maxRecDepth 100000

set_option maxHeartbeats 1600000 in
theorem refexpand (f : Nat → Nat) (hf : ∀ j, j < 16 → f j < 256) (w : World) :
    Calls Tryd.prog 28 #[.agg (arL 16 f).toArray] w fun e w' => e = .returned (.agg (arL 176 (ek f)).toArray) ∧ Below w.heap.size w w' := by
  have hz0 := zero176e
  have hz1 := zero176
  obtain ⟨kA, hkA⟩ : ∃ kA : Array Value, (arL 16 f).toArray = kA := ⟨_, rfl⟩
  obtain ⟨w1, hw1⟩ : ∃ w1 : World, w1 = w.alloc (.cells (arL 16 f).toArray 22) := ⟨_, rfl⟩
  have hs1 : w1.heap.size = w.heap.size + 1 := by rw [hw1]; simp
  have hb1 : Below w.heap.size w w1 := by rw [hw1]; exact (Below.refl _ _).alloc (Nat.le_refl _) _
  have hK1 : Ar w1 w.heap.size 16 f := by rw [hw1]; exact Ar.new w 16 _ _
  obtain ⟨w2, hw2⟩ : ∃ w2 : World, w2 = w1.alloc (.cells (arL 176 fun _ => 0).toArray 26) := ⟨_, rfl⟩
  have hs2 : w2.heap.size = w.heap.size + 2 := by rw [hw2]; simp [hs1]
  have hb2 : Below w.heap.size w w2 := by rw [hw2]; exact hb1.alloc (by omega) _
  have hR2 : Ar w2 (w.heap.size + 1) 176 (fun _ => 0) := by rw [hw2, ← hs1]; exact Ar.new w1 176 _ _
  have hK2 : Ar w2 w.heap.size 16 f := by rw [hw2]; exact hK1.alloc (by omega) _
  rw [hkA] at hw1
  rw [hkA]
  clear hb1 hK1
  go_enter Tryd.func28, Tryd.ntmps28
  go_upto_region 1 with fail
  rw [← hw1, ← hw2]
  clear hw1 hw2
  go_wp2_with (refine wpList_load_ar rfl _ _ rfl _ _ _ rfl hK2 Tryd.arr16 (size16 _) ?_)
  rw [← hkA]
  refine (refwords f hf _).mono ?_
  rintro e w3 ⟨rfl, k3⟩
  have hR3 := hR2.to (by omega) k3
  have hb3 := hb2.trans (k3.mono hb2.size)
  have hs3 := k3.size
  obtain ⟨gW, hgW⟩ : ∃ gW : Nat, w3.heap.size = gW := ⟨_, rfl⟩
  have hge : w.heap.size + 2 ≤ gW := by omega
  have hT4 : Ar (w3.alloc (.cells (arL 176 fun _ => 0).toArray 52)) gW 176 (fun _ => 0) := by rw [← hgW]; exact Ar.new w3 176 _ _
  have hR4 : Ar (w3.alloc (.cells (arL 176 fun _ => 0).toArray 52)) (w.heap.size + 1) 176 (fun _ => 0) := hR3.alloc (by omega) _
  have hb4 : Below w.heap.size w (w3.alloc (.cells (arL 176 fun _ => 0).toArray 52)) := hb3.alloc (by omega) _
  have hs4 : (w3.alloc (.cells (arL 176 fun _ => 0).toArray 52)).heap.size = gW + 1 := by simp [hgW]
  clear hR2 hb2 hK2 hR3 hb3 k3 hs3 hs1 hs2
  go_upto_region 2 with (refine wpList_store_ar rfl _ _ _ rfl _ _ _ (ek f) rfl rfl hT4 (size176 _) ?_; intro w5 hT5 hb5 hs5 hk5)
  have hR5 := hk5 _ _ _ (by omega) hR4
  have hB5 := hb4.trans (hb5.mono (by omega))
  rw [hs4] at hs5
  clear hT4 hR4 hb4 hb5 hk5 hs4 hgW
  dsimp only [Act.put]
  obtain ⟨w6, hw6⟩ : ∃ w6 : World, w6 = w5.alloc (.cells (arL 176 fun _ => 0).toArray 26) := ⟨_, rfl⟩
  have hO6 : Ar w6 (gW + 1) 176 (fun _ => 0) := by rw [hw6, ← hs5]; exact Ar.new w5 176 _ _
  have hT6 : Ar w6 gW 176 (ek f) := by rw [hw6]; exact hT5.alloc (by omega) _
  have hR6 : Ar w6 (w.heap.size + 1) 176 (fun _ => 0) := by rw [hw6]; exact hR5.alloc (by omega) _
  have hB6 : Below w.heap.size w w6 := by rw [hw6]; exact hB5.alloc (by have := hB5.size; omega) _
  clear hT5 hR5 hB5
  go_upto_region 3 with fail
  rw [← hw6]
  clear hw6 hs5
  obtain ⟨gO, hgO⟩ : ∃ gO : Nat, gW + 1 = gO := ⟨_, rfl⟩
  have hgO2 : gW < gO := by omega
  rw [hgO] at hO6
  rw [hgO]
  clear hgO hkA hf
  go_wp2_with fail
  go_loopw [5] (fun i wr => ∃ n : Nat, n ≤ 176 ∧ i = .int .i64 n ∧ Ar wr gW 176 (ek f) ∧ Ar wr (w.heap.size + 1) 176 (fun _ => 0) ∧ Ar wr gO 176 (fun m => if m < n then ek f m else 0) ∧ Below w.heap.size w wr) (fun i _ => 176 - (intOf i).toNat)
  case atStart => exact ⟨0, Nat.zero_le _, rfl, hT6, hR6, hO6.ext (fun j _ => rfl), hB6⟩
  case round =>
    clear hT6 hR6 hO6 hB6
    obtain ⟨n, hn, rfl, hT, hR, hO, hB⟩ := hrel
    by_cases hlt : n < 176
    · obtain ⟨a, ha⟩ : ∃ a : Nat, a = n / 16 := ⟨_, rfl⟩
      obtain ⟨b, hb⟩ : ∃ b : Nat, b = n % 16 := ⟨_, rfl⟩
      obtain ⟨c, hc⟩ : ∃ c : Nat, c = n / 4 := ⟨_, rfl⟩
      obtain ⟨d, hd⟩ : ∃ d : Nat, d = n % 4 := ⟨_, rfl⟩
      have a1 : ((n : Int)).tdiv 16 = (a : Int) := by rw [Int.tdiv_eq_ediv_of_nonneg (by omega)]; omega
      have a2 : (n : Int) / 16 = (a : Int) := by omega
      have a3 : IntKind.i64.wrap (a : Int) = (a : Int) := wraps_i64' _ (by omega) (by omega)
      have b1 : ((n : Int)).tmod 16 = (b : Int) := by rw [Int.tmod_eq_emod_of_nonneg (by omega)]; omega
      have b2 : (n : Int) % 16 = (b : Int) := by omega
      have b3 : IntKind.i64.wrap (b : Int) = (b : Int) := wraps_i64' _ (by omega) (by omega)
      have c1 : ((n : Int)).tdiv 4 = (c : Int) := by rw [Int.tdiv_eq_ediv_of_nonneg (by omega)]; omega
      have c2 : (n : Int) / 4 = (c : Int) := by omega
      have c3 : IntKind.i64.wrap (c : Int) = (c : Int) := wraps_i64' _ (by omega) (by omega)
      have d1 : ((n : Int)).tmod 4 = (d : Int) := by rw [Int.tmod_eq_emod_of_nonneg (by omega)]; omega
      have d2 : (n : Int) % 4 = (d : Int) := by omega
      have d3 : IntKind.i64.wrap (d : Int) = (d : Int) := wraps_i64' _ (by omega) (by omega)
      have i1 : (a : Int) < 11 := by omega
      have i2 : (b : Int) < 16 := by omega
      have i3 : (c : Int) < 44 := by omega
      have i4 : (d : Int) < 4 := by omega
      obtain ⟨k0, _⟩ := hT (c * 4 + d) (by omega)
      rw [show c * 4 + d = n by omega] at k0
      have k1 : wr.cell? ⟨gW, c * 4 + d, none⟩ = some (.int .u8 (ek f n : Nat)) := by rw [show c * 4 + d = n by omega]; exact k0
      obtain ⟨k2, f2⟩ := hO (a * 16 + b) (by omega)
      have e := Lib.hid (show a * 16 + b = n by omega)
      have hT3 := hT.far (p := ⟨gO, a * 16 + b, none⟩) (by simp; omega) (.int .u8 (ek f n : Nat))
      have hR3 := hR.far (p := ⟨gO, a * 16 + b, none⟩) (by simp; omega) (.int .u8 (ek f n : Nat))
      have hO3 := (hO.set (j := a * 16 + b) (v := ek f n) (by omega) rfl).ext (f' := fun m => if m < n + 1 then ek f m else 0) (fun m _ => by rw [e.out]; exact low_step (ek f) n m)
      have hB3 := hB.setCell (p := ⟨gO, a * 16 + b, none⟩) (by simp; omega) (.int .u8 (ek f n : Nat))
      clear hT hR hO hB ha hb hc hd k0
      go_wp2_with fail
      refine wp_region_noPanic ?_
      go_big_region
      refine NoPanic.normal ?_
      go_wp2_with fail
      go_roundw
      case rel => exact ⟨n + 1, by omega, by go_num, hT3.drew, hR3.drew, hO3.drew, hB3.drew⟩
      case measure => simp [intOf]; omega
    · obtain rfl : n = 176 := by omega
      have hO2 := hO.ext (f' := ek f) (fun j hj => by rw [if_pos hj])
      clear hO
      go_wp2_with (first
        | (refine wpList_load_ar rfl _ _ rfl _ _ _ rfl hO2 Tryd.arr11 (size176e _) ?_)
        | (refine wpList_store_ar rfl _ _ _ rfl _ _ _ (ek f) rfl rfl hR (size176e _) ?_; intro w8 hA8 hb8 _ _))
      refine bodyPost_ret_ar rfl rfl hA8 Tryd.arr11 (size176e _) rfl ⟨rfl, ?_⟩
      exact hB.trans (hb8.mono (by omega))
end Go.Proofs.YtghcpfcomhfppaaDoor
