/-
  The walk of the law FieldSums of layer 3: for every string and any two arrays of four bytes it returns true, and writes nothing that was there.
-/
import Derived.Test.YtinbgmkgjgdgdaaFaw
import Derived.Deep.RegionHeld3
namespace Go.Proofs.Ytinbgmkgjgdgdaa
open Go.RowKit
set_option linter.unusedVariables false
set_option maxRecDepth 100000

def dotN (a0 a1 a2 a3 b0 b1 b2 b3 : Nat) : Nat → Nat
  | 0 => 0
  | 1 => mul a0 b0
  | 2 => mul a0 b0 ^^^ mul a1 b1
  | 3 => (mul a0 b0 ^^^ mul a1 b1) ^^^ mul a2 b2
  | _ => ((mul a0 b0 ^^^ mul a1 b1) ^^^ mul a2 b2) ^^^ mul a3 b3
theorem sumN_step (l : List UInt8) (k : Nat) (h : k < l.length) : sumN (l.take k) ^^^ (l[k]?.getD 0).toNat = sumN (l.take (k + 1)) := by
  rw [List.take_succ_eq_append_getElem h, sumN_snoc]
  simp [List.getElem?_eq_getElem h]

theorem held8C {g h a b c d a' b' c' d' : Nat} {W1 W : World}
    (k : W.cell? ⟨g, 0, none⟩ = some (.int .u8 (a : Int)) ∧ W.cell? ⟨g, 1, none⟩ = some (.int .u8 (b : Int)) ∧ W.cell? ⟨g, 2, none⟩ = some (.int .u8 (c : Int)) ∧ W.cell? ⟨g, 3, none⟩ = some (.int .u8 (d : Int)) ∧
      W.cell? ⟨h, 0, none⟩ = some (.int .u8 (a' : Int)) ∧ W.cell? ⟨h, 1, none⟩ = some (.int .u8 (b' : Int)) ∧ W.cell? ⟨h, 2, none⟩ = some (.int .u8 (c' : Int)) ∧ W.cell? ⟨h, 3, none⟩ = some (.int .u8 (d' : Int)) ∧ Base W1 W) :
    C4 g a b c d W ∧ C4 h a' b' c' d' W ∧ Base W1 W := by
  obtain ⟨k0, k1, k2, k3, k4, k5, k6, k7, k8⟩ := k
  exact ⟨⟨k0, k1, k2, k3⟩, ⟨k4, k5, k6, k7⟩, k8⟩

set_option maxHeartbeats 4000000 in
theorem sums_long (A : Option Addr) (n c : Nat) (a0 a1 a2 a3 b0 b1 b2 b3 : Nat) (w : World) (hn : 500 < n) (hm : n ≤ 9223372036854775807) :
    Calls Try.prog 6 #[.slice A n c, .agg #[.int .u8 (a0 : Int), .int .u8 (a1 : Int), .int .u8 (a2 : Int), .int .u8 (a3 : Int)], .agg #[.int .u8 (b0 : Int), .int .u8 (b1 : Int), .int .u8 (b2 : Int), .int .u8 (b3 : Int)]] w fun e w' =>
      e = .returned (.bool true) ∧ Below w.heap.size w w' := by
  obtain ⟨w2, hw2, hC, hD, hbel⟩ := C4.two a0 a1 a2 a3 b0 b1 b2 b3 w
  have hgt : (500 : Int) < (n : Int) := by omega
  clear hn hC hD
  go_enter Try.func6, Try.ntmps6
  go_wp2_with fail
  rw [← hw2]
  clear hw2
  refine (fawake _).mono ?_
  rintro e w3 ⟨rfl, k3⟩
  have k3 := hbel.trans (k3.mono hbel.size)
  go_wp2_with fail
  refine (fawake _).mono ?_
  rintro e w4 ⟨rfl, k4⟩
  have k4 := k3.trans (k4.mono k3.size)
  go_wp2_with fail
  go_ret
  exact ⟨rfl, k4⟩

set_option maxHeartbeats 4000000 in
theorem sums_short (A : Option Addr) (n c : Nat) (l : List UInt8) (a0 a1 a2 a3 b0 b1 b2 b3 : Nat) (w : World) (h : Sl w w.heap.size A n l) (hn : n ≤ 500)
    (ha0 : a0 < 256) (ha1 : a1 < 256) (ha2 : a2 < 256) (ha3 : a3 < 256) (hb0 : b0 < 256) (hb1 : b1 < 256) (hb2 : b2 < 256) (hb3 : b3 < 256) :
    Calls Try.prog 6 #[.slice A n c, .agg #[.int .u8 (a0 : Int), .int .u8 (a1 : Int), .int .u8 (a2 : Int), .int .u8 (a3 : Int)], .agg #[.int .u8 (b0 : Int), .int .u8 (b1 : Int), .int .u8 (b2 : Int), .int .u8 (b3 : Int)]] w fun e w' =>
      e = .returned (.bool true) ∧ Below w.heap.size w w' := by
  have hm0 := mul_lt a0 b0 ha0
  have hm1 := mul_lt a1 b1 ha1
  have hm2 := mul_lt a2 b2 ha2
  have hm3 := mul_lt a3 b3 ha3
  have hx1 := xor_lt _ _ hm0 hm1
  have hx2 := xor_lt _ _ hx1 hm2
  have hcm := Lib.hid (show ((mul b0 a0 ^^^ mul b1 a1) ^^^ mul b2 a2) ^^^ mul b3 a3 = ((mul a0 b0 ^^^ mul a1 b1) ^^^ mul a2 b2) ^^^ mul a3 b3 from by
    rw [mul_comm_ b0 a0 hb0 ha0, mul_comm_ b1 a1 hb1 ha1, mul_comm_ b2 a2 hb2 ha2, mul_comm_ b3 a3 hb3 ha3])
  have hle := Lib.hid (show ∀ k, k < n → sumN (l.take k) ^^^ (l[k]?.getD 0).toNat = sumN (l.take (k + 1)) from fun k hk => sumN_step l k (by have := h.len; omega))
  have hall := Lib.hid (show l.take n = l from List.take_of_length_le (by have := h.len; omega))
  have hsl := Lib.hid (sumN_lt)
  obtain ⟨w2, hw2, hC, hD, hbel⟩ := C4.two a0 a1 a2 a3 b0 b1 b2 b3 w
  have hsz : w.heap.size + 1 < w2.heap.size := by rw [hw2]; simp
  have hs2 : Sl w2 w2.heap.size A n l := (h.below hbel).more hbel.size
  clear h
  go_enter Try.func6, Try.ntmps6
  go_wp2_with fail
  rw [← hw2]
  clear hw2
  refine (fawake _).mono ?_
  rintro e w3 ⟨rfl, k3⟩
  have hC3 := hC.to (by omega) k3
  have hD3 := hD.to hsz k3
  have hs3 := hs2.base k3
  have hz3 := k3.size
  have k3 := hbel.trans (k3.mono hbel.size)
  clear hC hD hs2 hbel
  go_wp2_with fail
  go_loopw [7, 8] (fun x i wr => ∃ k : Nat, k ≤ n ∧ i = .int .i64 k ∧ x = .int .u8 (sumN (l.take k) : Nat) ∧ wr = w3) (fun _ i _ => n - (intOf i).toNat)
  case atStart => exact ⟨0, Nat.zero_le _, rfl, rfl, rfl⟩
  case round =>
    obtain ⟨k, hk, rfl, rfl, rfl⟩ := hrel
    by_cases hlt : k < n
    · obtain ⟨b, off, rfl, hb, hc⟩ := hs3.at_ hlt
      have hnx := Lib.hid (hle.out k hlt)
      have hX := (l[k]?.getD 0).toNat_lt
      have hS := hsl.out (l.take k)
      rw [show l.getD k 0 = l[k]?.getD 0 from by simp] at hc
      go_wp2_with fail
      refine (refx _ _ _ hS hX).mono ?_
      rintro e w' ⟨rfl, rfl⟩
      rw [hnx.out]
      go_wp2_with fail
      go_roundw
      case rel => exact ⟨k + 1, by omega, by go_num, rfl, trivial⟩
      case measure => simp [intOf]; omega
    · obtain rfl : k = n := by omega
      rw [hall.out]
      go_wp2_with fail
      clear hle hall hsl
      obtain ⟨wo, rfl⟩ : ∃ wo : World, wo = wr := ⟨_, rfl⟩
      go_loopw [9, 10] (fun y i ws => ∃ j : Nat, j ≤ 4 ∧ i = .int .i64 j ∧ y = .int .u8 (dotN a0 a1 a2 a3 b0 b1 b2 b3 j : Nat) ∧ C4 w.heap.size a0 a1 a2 a3 ws ∧ C4 (w.heap.size + 1) b0 b1 b2 b3 ws ∧ Base wo ws) (fun _ i _ => 4 - (intOf i).toNat)
      case atStart => exact ⟨0, Nat.zero_le _, rfl, rfl, hC3, hD3, Base.refl _⟩
      case round =>
        obtain ⟨j, hj, rfl, rfl, ⟨c0, c1, c2, c3⟩, ⟨d0, d1, d2, d3⟩, hB⟩ := hrel
        rcases (show j = 0 ∨ j = 1 ∨ j = 2 ∨ j = 3 ∨ j = 4 by omega) with rfl | rfl | rfl | rfl | rfl
        case inl =>
          rw [show dotN a0 a1 a2 a3 b0 b1 b2 b3 0 = 0 from rfl]
          go_wp2_with fail
          go_region_held3 (fun W => W.cell? ⟨w.heap.size, 0, none⟩ = some (.int .u8 (a0 : Int)) ∧ W.cell? ⟨w.heap.size, 1, none⟩ = some (.int .u8 (a1 : Int)) ∧ W.cell? ⟨w.heap.size, 2, none⟩ = some (.int .u8 (a2 : Int)) ∧ W.cell? ⟨w.heap.size, 3, none⟩ = some (.int .u8 (a3 : Int)) ∧
            W.cell? ⟨w.heap.size + 1, 0, none⟩ = some (.int .u8 (b0 : Int)) ∧ W.cell? ⟨w.heap.size + 1, 1, none⟩ = some (.int .u8 (b1 : Int)) ∧ W.cell? ⟨w.heap.size + 1, 2, none⟩ = some (.int .u8 (b2 : Int)) ∧ W.cell? ⟨w.heap.size + 1, 3, none⟩ = some (.int .u8 (b3 : Int)) ∧ Base wo W)
            (first | assumption | (refine ⟨?_, ?_, ?_, ?_, ?_, ?_, ?_, ?_, ?_⟩ <;> first | assumption | exact Base.drew (by assumption) | exact c0 | exact c1 | exact c2 | exact c3 | exact d0 | exact d1 | exact d2 | exact d3))
            (first
            | (go_at_call 10
               refine (refmul a0 b0 _ (by assumption) (by assumption)).mono ?_
               rintro e w6 ⟨rfl, hb6⟩
               have hN := held8 (by assumption) hb6)
            | (go_at_call 16
               refine (refx (0) (mul a0 b0) _ (by omega) (by assumption)).mono ?_
               rintro e w6 ⟨rfl, rfl⟩))
          have hH : C4 w.heap.size a0 a1 a2 a3 _ ∧ C4 (w.heap.size + 1) b0 b1 b2 b3 _ ∧ Base wo _ := held8C (by assumption)
          go_wp2_with fail
          go_roundw
          case rel => exact ⟨1, by omega, rfl, rfl, hH.1, hH.2.1, hH.2.2⟩
          case measure => simp [intOf]
        case inr.inl =>
          rw [show dotN a0 a1 a2 a3 b0 b1 b2 b3 1 = mul a0 b0 from rfl]
          go_wp2_with fail
          go_region_held3 (fun W => W.cell? ⟨w.heap.size, 0, none⟩ = some (.int .u8 (a0 : Int)) ∧ W.cell? ⟨w.heap.size, 1, none⟩ = some (.int .u8 (a1 : Int)) ∧ W.cell? ⟨w.heap.size, 2, none⟩ = some (.int .u8 (a2 : Int)) ∧ W.cell? ⟨w.heap.size, 3, none⟩ = some (.int .u8 (a3 : Int)) ∧
            W.cell? ⟨w.heap.size + 1, 0, none⟩ = some (.int .u8 (b0 : Int)) ∧ W.cell? ⟨w.heap.size + 1, 1, none⟩ = some (.int .u8 (b1 : Int)) ∧ W.cell? ⟨w.heap.size + 1, 2, none⟩ = some (.int .u8 (b2 : Int)) ∧ W.cell? ⟨w.heap.size + 1, 3, none⟩ = some (.int .u8 (b3 : Int)) ∧ Base wo W)
            (first | assumption | (refine ⟨?_, ?_, ?_, ?_, ?_, ?_, ?_, ?_, ?_⟩ <;> first | assumption | exact Base.drew (by assumption) | exact c0 | exact c1 | exact c2 | exact c3 | exact d0 | exact d1 | exact d2 | exact d3))
            (first
            | (go_at_call 10
               refine (refmul a1 b1 _ (by assumption) (by assumption)).mono ?_
               rintro e w6 ⟨rfl, hb6⟩
               have hN := held8 (by assumption) hb6)
            | (go_at_call 16
               refine (refx (mul a0 b0) (mul a1 b1) _ hm0 (by assumption)).mono ?_
               rintro e w6 ⟨rfl, rfl⟩))
          have hH : C4 w.heap.size a0 a1 a2 a3 _ ∧ C4 (w.heap.size + 1) b0 b1 b2 b3 _ ∧ Base wo _ := held8C (by assumption)
          go_wp2_with fail
          go_roundw
          case rel => exact ⟨2, by omega, rfl, rfl, hH.1, hH.2.1, hH.2.2⟩
          case measure => simp [intOf]
        case inr.inr.inl =>
          rw [show dotN a0 a1 a2 a3 b0 b1 b2 b3 2 = mul a0 b0 ^^^ mul a1 b1 from rfl]
          go_wp2_with fail
          go_region_held3 (fun W => W.cell? ⟨w.heap.size, 0, none⟩ = some (.int .u8 (a0 : Int)) ∧ W.cell? ⟨w.heap.size, 1, none⟩ = some (.int .u8 (a1 : Int)) ∧ W.cell? ⟨w.heap.size, 2, none⟩ = some (.int .u8 (a2 : Int)) ∧ W.cell? ⟨w.heap.size, 3, none⟩ = some (.int .u8 (a3 : Int)) ∧
            W.cell? ⟨w.heap.size + 1, 0, none⟩ = some (.int .u8 (b0 : Int)) ∧ W.cell? ⟨w.heap.size + 1, 1, none⟩ = some (.int .u8 (b1 : Int)) ∧ W.cell? ⟨w.heap.size + 1, 2, none⟩ = some (.int .u8 (b2 : Int)) ∧ W.cell? ⟨w.heap.size + 1, 3, none⟩ = some (.int .u8 (b3 : Int)) ∧ Base wo W)
            (first | assumption | (refine ⟨?_, ?_, ?_, ?_, ?_, ?_, ?_, ?_, ?_⟩ <;> first | assumption | exact Base.drew (by assumption) | exact c0 | exact c1 | exact c2 | exact c3 | exact d0 | exact d1 | exact d2 | exact d3))
            (first
            | (go_at_call 10
               refine (refmul a2 b2 _ (by assumption) (by assumption)).mono ?_
               rintro e w6 ⟨rfl, hb6⟩
               have hN := held8 (by assumption) hb6)
            | (go_at_call 16
               refine (refx (mul a0 b0 ^^^ mul a1 b1) (mul a2 b2) _ hx1 (by assumption)).mono ?_
               rintro e w6 ⟨rfl, rfl⟩))
          have hH : C4 w.heap.size a0 a1 a2 a3 _ ∧ C4 (w.heap.size + 1) b0 b1 b2 b3 _ ∧ Base wo _ := held8C (by assumption)
          go_wp2_with fail
          go_roundw
          case rel => exact ⟨3, by omega, rfl, rfl, hH.1, hH.2.1, hH.2.2⟩
          case measure => simp [intOf]
        case inr.inr.inr.inl =>
          rw [show dotN a0 a1 a2 a3 b0 b1 b2 b3 3 = (mul a0 b0 ^^^ mul a1 b1) ^^^ mul a2 b2 from rfl]
          go_wp2_with fail
          go_region_held3 (fun W => W.cell? ⟨w.heap.size, 0, none⟩ = some (.int .u8 (a0 : Int)) ∧ W.cell? ⟨w.heap.size, 1, none⟩ = some (.int .u8 (a1 : Int)) ∧ W.cell? ⟨w.heap.size, 2, none⟩ = some (.int .u8 (a2 : Int)) ∧ W.cell? ⟨w.heap.size, 3, none⟩ = some (.int .u8 (a3 : Int)) ∧
            W.cell? ⟨w.heap.size + 1, 0, none⟩ = some (.int .u8 (b0 : Int)) ∧ W.cell? ⟨w.heap.size + 1, 1, none⟩ = some (.int .u8 (b1 : Int)) ∧ W.cell? ⟨w.heap.size + 1, 2, none⟩ = some (.int .u8 (b2 : Int)) ∧ W.cell? ⟨w.heap.size + 1, 3, none⟩ = some (.int .u8 (b3 : Int)) ∧ Base wo W)
            (first | assumption | (refine ⟨?_, ?_, ?_, ?_, ?_, ?_, ?_, ?_, ?_⟩ <;> first | assumption | exact Base.drew (by assumption) | exact c0 | exact c1 | exact c2 | exact c3 | exact d0 | exact d1 | exact d2 | exact d3))
            (first
            | (go_at_call 10
               refine (refmul a3 b3 _ (by assumption) (by assumption)).mono ?_
               rintro e w6 ⟨rfl, hb6⟩
               have hN := held8 (by assumption) hb6)
            | (go_at_call 16
               refine (refx ((mul a0 b0 ^^^ mul a1 b1) ^^^ mul a2 b2) (mul a3 b3) _ hx2 (by assumption)).mono ?_
               rintro e w6 ⟨rfl, rfl⟩))
          have hH : C4 w.heap.size a0 a1 a2 a3 _ ∧ C4 (w.heap.size + 1) b0 b1 b2 b3 _ ∧ Base wo _ := held8C (by assumption)
          go_wp2_with fail
          go_roundw
          case rel => exact ⟨4, by omega, rfl, rfl, hH.1, hH.2.1, hH.2.2⟩
          case measure => simp [intOf]
        case inr.inr.inr.inr =>
          rw [show dotN a0 a1 a2 a3 b0 b1 b2 b3 4 = ((mul a0 b0 ^^^ mul a1 b1) ^^^ mul a2 b2) ^^^ mul a3 b3 from rfl]
          have hs4 := hs3.base hB
          have k4 := k3.trans (Below.mono hB k3.size)
          clear hs3 hB hC3 hD3
          go_wp2_with fail
          refine (fsum _ _ _ l _ hs4 (by omega)).mono ?_
          rintro e w' ⟨rfl, rfl⟩
          go_wp2_with fail
          refine (fdot a0 a1 a2 a3 b0 b1 b2 b3 _ ha0 ha1 ha2 ha3 hb0 hb1 hb2 hb3).mono ?_
          rintro e w5 ⟨rfl, k5⟩
          obtain ⟨e0, e1, e2, e3⟩ := C4.to ⟨c0, c1, c2, c3⟩ (blk_lt c0) k5
          obtain ⟨f0, f1, f2, f3⟩ := C4.to ⟨d0, d1, d2, d3⟩ (blk_lt d0) k5
          have k6 := k4.trans (k5.mono k4.size)
          clear c0 c1 c2 c3 d0 d1 d2 d3 k4 k5 hs4
          go_wp2_with fail
          refine (fdot b0 b1 b2 b3 a0 a1 a2 a3 _ hb0 hb1 hb2 hb3 ha0 ha1 ha2 ha3).mono ?_
          rintro e w7 ⟨rfl, k7⟩
          rw [hcm.out]
          have k8 := k6.trans (k7.mono k6.size)
          go_wp2_with fail
          go_ret
          exact ⟨rfl, k8⟩
end Go.Proofs.Ytinbgmkgjgdgdaa
