/-
  Contracts of the reference package of layer 15, each by a walk through its text; what was there stays as it was.
-/
import Derived.Test.YtbjohffpjfglgaaNca
import Derived.Test.YtbjohffpjfglgaaBits
import Derived.Test.YtbjohffpjfglgaaBitz
import Derived.Deep.RegionHeld3
namespace Go.Proofs.Ytbjohffpjfglgaa
open Go.RowKit
set_option linter.unusedVariables false
set_option maxRecDepth 100000

set_option linter.unusedSimpArgs false

theorem Try.arr8n : Try.prog.underlying 24 = some (.array 8 5) := by kernel_rfl
theorem Try.zer8n : (Try.prog.info? 24).map (fun i => (i.zero, i.size)) = some (some (.agg (Array.replicate 8 (.int .u8 0))), 8) := by kernel_rfl
theorem size8n (f : Nat → Nat) : (Try.prog.info? 24).map (·.size) = some (arL 8 f).length := by rw [arL_len]; exact (zero_of_info Try.zer8n).2
theorem zero8n (w : World) : (zeroValue 24).run Try.prog w = .ok (.agg (arL 8 fun _ => 0).toArray) w := by
  rw [arL_zero]; exact (zero_of_info Try.zer8n).1 w

theorem Try.arr12n : Try.prog.underlying 27 = some (.array 12 5) := by kernel_rfl
theorem Try.zer12n : (Try.prog.info? 27).map (fun i => (i.zero, i.size)) = some (some (.agg (Array.replicate 12 (.int .u8 0))), 12) := by kernel_rfl
theorem size12n (f : Nat → Nat) : (Try.prog.info? 27).map (·.size) = some (arL 12 f).length := by rw [arL_len]; exact (zero_of_info Try.zer12n).2
theorem zero12n (w : World) : (zeroValue 27).run Try.prog w = .ok (.agg (arL 12 fun _ => 0).toArray) w := by
  rw [arL_zero]; exact (zero_of_info Try.zer12n).1 w

set_option maxHeartbeats 1000000 in
theorem rright (d : Int) (x : Nat) (w : World) (hd : -9223372036854775808 ≤ d ∧ d ≤ 9223372036854775807) (hx : x < 18446744073709551616) :
    Calls Try.prog 11 #[.int .i64 d, .int .u64 (x : Int)] w fun e w' => e = .returned (.bool (decide ((d = 0 ∨ d = 1) ∧ x < 9223372036854775808))) ∧ w' = w := by
  by_cases h0 : d = 0
  · subst h0
    by_cases hx2 : x < 9223372036854775808
    · have e1 : (x : Int) < 9223372036854775808 := by omega
      rw [decide_eq_true (by omega)]
      go_enter Try.func11, Try.ntmps11
      go_wp2
      go_ret
      exact ⟨rfl, rfl⟩
    · have e1 : ¬ (x : Int) < 9223372036854775808 := by omega
      rw [decide_eq_false (by omega)]
      go_enter Try.func11, Try.ntmps11
      go_wp2
      go_ret
      exact ⟨rfl, rfl⟩
  · by_cases h1 : d = 1
    · subst h1
      clear h0
      by_cases hx2 : x < 9223372036854775808
      · have e1 : (x : Int) < 9223372036854775808 := by omega
        rw [decide_eq_true (by omega)]
        go_enter Try.func11, Try.ntmps11
        go_wp2
        go_ret
        exact ⟨rfl, rfl⟩
      · have e1 : ¬ (x : Int) < 9223372036854775808 := by omega
        rw [decide_eq_false (by omega)]
        go_enter Try.func11, Try.ntmps11
        go_wp2
        go_ret
        exact ⟨rfl, rfl⟩
    · rw [decide_eq_false (by omega)]
      go_enter Try.func11, Try.ntmps11
      go_wp2
      go_ret
      exact ⟨rfl, rfl⟩

theorem arrayAt8n (g o c : Nat) (w : World) : (Instr.arrayAt 24 (.slice (some ⟨g, o, none⟩) 8 c)).run Try.prog w = .ok (.pointer (some ⟨g, o, none⟩)) w := by
  simp [Instr.arrayAt, run_underlying Try.arr8n]
theorem own_range8 {w : World} {B g c : Nat} {l : List UInt8} (h : Own w B (some ⟨g, 0, none⟩) 8 c l) : w.rangeAt g 0 (arL 8 (lF l)) := fun j v hv => by
  rw [Nat.zero_add]
  have hl : l.length = 8 := by have := h.1; simpa using this
  rw [← map_lF l 8 hl] at hv
  have := World.ownsRow.cells h (g := g) rfl j _ hv
  rwa [Addr.add_mid, Nat.zero_add] at this
theorem hfacts {x y : Nat} (h : hnN 1 x = y) (hx : x < 9223372036854775808) : IntKind.u64.wrap ((x : Int) + 9223372036854775808) = (y : Int) ∧ (x : Int) + 9223372036854775808 = (y : Int) ∧ IntKind.u64.wrap (y : Int) = (y : Int) := by
  unfold hnN at h
  refine ⟨?_, by omega, ?_⟩
  · rw [wraps_u64' _ (by omega) (by omega)]; omega
  · rw [wraps_u64' _ (by omega) (by omega)]
set_option maxHeartbeats 1000000 in
theorem rhead (d x : Nat) (w : World) (hd : d < 2) (hx : x < 9223372036854775808) :
    Calls Try.prog 14 #[.int .i64 (d : Nat), .int .u64 (x : Nat)] w fun e w' => e = .returned (.agg (arL 8 (hdF d x)).toArray) ∧ Below w.heap.size w w' := by
  have hz := zero8n
  have hat := arrayAt8n
  obtain ⟨w2, hw2⟩ : ∃ w2 : World, w2 = w.alloc (.cells (arL 8 fun _ => 0).toArray 24) := ⟨_, rfl⟩
  have hb2 : Below w.heap.size w w2 := by rw [hw2]; exact (Below.refl _ _).alloc (by omega) _
  have hR2 : Ar w2 w.heap.size 8 (fun _ => 0) := by rw [hw2]; exact Ar.new w 8 _ _
  obtain ⟨y, hy⟩ : ∃ y, hnN d x = y := ⟨_, rfl⟩
  have HY := Lib.hid (show y < 18446744073709551616 by rw [← hy]; exact hn_lt hd hx)
  obtain ⟨H, hH⟩ : ∃ H, hdF d x = H := ⟨_, rfl⟩
  have HL := Lib.hid (show lF (byt y 8) = H by rw [← hH, ← hy]; rfl)
  rw [hH]
  clear hH
  go_enter Try.func14, Try.ntmps14
  go_upto_region 1 with fail
  rw [← hw2]
  clear hw2
  have hc : d = 0 ∨ d = 1 := by omega
  rcases hc with rfl | rfl
  · have hxy : x = y := by rw [← hy]; unfold hnN; omega
    have HXY := Lib.hid hxy
    clear hy hd hx hxy
    go_upto_region 4 with fail
    rw [show (x : Int) = (y : Int) by rw [HXY.out]]
    go_wp2_with fail
    refine (refBytes y 8 _ HY.out (by omega)).mono ?_
    rintro e w3 ⟨A, c, rfl, hown, hq⟩
    rw [show min (8 : Int).toNat 8 = 8 from rfl] at hown
    try rw [show min (8 : Int).toNat 8 = 8 from rfl]
    obtain ⟨g, cap, hv, _, _⟩ := World.ownsRow.form hown (by omega)
    injection hv with e1 e2 e3
    subst e1
    subst e3
    have hr : w3.rangeAt g 0 (arL 8 (H)) := by rw [← HL.out]; exact own_range8 hown
    have hR3 := hR2.to (by omega) hq
    have hB3 := hb2.trans (hq.mono hb2.size)
    clear hown hq hR2 hb2
    go_wp2_with (first
      | (refine wpList_load_mid rfl _ _ rfl g 0 rfl (arL 8 (H)) _ hr Try.arr8n rfl (size8n _) ?_)
      | (refine wpList_store_ar rfl _ _ _ rfl _ _ _ (H) rfl rfl hR3 (size8n _) ?_; intro w8 hA8 hb8 _ _))
    refine bodyPost_ret_ar rfl rfl hA8 Try.arr8n (size8n _) rfl ⟨rfl, ?_⟩
    exact hB3.trans (hb8.mono (by omega))
  · obtain ⟨f1, f2, f3⟩ := hfacts hy hx
    clear hy hd hx
    go_upto_region 4 with fail
    clear f2
    go_wp2_with fail
    refine (refBytes y 8 _ HY.out (by omega)).mono ?_
    rintro e w3 ⟨A, c, rfl, hown, hq⟩
    rw [show min (8 : Int).toNat 8 = 8 from rfl] at hown
    try rw [show min (8 : Int).toNat 8 = 8 from rfl]
    obtain ⟨g, cap, hv, _, _⟩ := World.ownsRow.form hown (by omega)
    injection hv with e1 e2 e3
    subst e1
    subst e3
    have hr : w3.rangeAt g 0 (arL 8 (H)) := by rw [← HL.out]; exact own_range8 hown
    have hR3 := hR2.to (by omega) hq
    have hB3 := hb2.trans (hq.mono hb2.size)
    clear hown hq hR2 hb2
    go_wp2_with (first
      | (refine wpList_load_mid rfl _ _ rfl g 0 rfl (arL 8 (H)) _ hr Try.arr8n rfl (size8n _) ?_)
      | (refine wpList_store_ar rfl _ _ _ rfl _ _ _ (H) rfl rfl hR3 (size8n _) ?_; intro w8 hA8 hb8 _ _))
    refine bodyPost_ret_ar rfl rfl hA8 Try.arr8n (size8n _) rfl ⟨rfl, ?_⟩
    exact hB3.trans (hb8.mono (by omega))

/-- A nonce of which some bytes of the head are there. -/
def noK (h : Nat → Nat) (k j : Nat) : Nat := if 4 ≤ j ∧ j < 4 + k then h (j - 4) else 0
theorem noK_zero (h : Nat → Nat) : noK h 0 = fun _ => 0 := by funext j; unfold noK; rw [if_neg (by omega)]
theorem noK_step (h : Nat → Nat) (k j : Nat) : (if j = 4 + k then h k else noK h k j) = noK h (k + 1) j := by
  unfold noK
  by_cases e : j = 4 + k
  · rw [if_pos e, if_pos (by omega), show j - 4 = k by omega]
  · rw [if_neg e]
    by_cases e2 : 4 ≤ j ∧ j < 4 + k
    · rw [if_pos e2, if_pos (by omega)]
    · rw [if_neg e2, if_neg (by omega)]
theorem noK_all (h : Nat → Nat) : ∀ j, j < 12 → noK h 8 j = noF h j := fun j hj => by
  unfold noK noF
  by_cases e : j < 4
  · rw [if_pos e, if_neg (by omega)]
  · rw [if_neg e, if_pos (by omega)]
set_option maxHeartbeats 2000000 in
theorem rmake (d x : Nat) (w : World) (hd : d < 2) (hx : x < 9223372036854775808) :
    Calls Try.prog 15 #[.int .i64 (d : Nat), .int .u64 (x : Nat)] w fun e w' => e = .returned (.agg (arL 12 (noF (hdF d x))).toArray) ∧ Below w.heap.size w w' := by
  have hz := zero12n
  have hz8 := zero8n
  obtain ⟨w1, hw1⟩ : ∃ w1 : World, w1 = w.alloc (.cells (arL 12 fun _ => 0).toArray 27) := ⟨_, rfl⟩
  have hs1 : w1.heap.size = w.heap.size + 1 := by rw [hw1]; simp
  have hb1 : Below w.heap.size w w1 := by rw [hw1]; exact (Below.refl _ _).alloc (Nat.le_refl _) _
  have hR1 : Ar w1 w.heap.size 12 (fun _ => 0) := by rw [hw1]; exact Ar.new w 12 _ _
  obtain ⟨w2, hw2⟩ : ∃ w2 : World, w2 = w1.alloc (.cells (arL 12 fun _ => 0).toArray 27) := ⟨_, rfl⟩
  have hs2 : w2.heap.size = w.heap.size + 2 := by rw [hw2]; simp [hs1]
  have hb2 : Below w.heap.size w w2 := by rw [hw2]; exact hb1.alloc (by omega) _
  have hN2 : Ar w2 (w.heap.size + 1) 12 (fun _ => 0) := by rw [hw2, ← hs1]; exact Ar.new w1 12 _ _
  have hR2 : Ar w2 w.heap.size 12 (fun _ => 0) := by rw [hw2]; exact hR1.alloc (by omega) _
  have HH := Lib.hid (fun V => rhead d x V hd hx)
  obtain ⟨H, hH⟩ : ∃ H, hdF d x = H := ⟨_, rfl⟩
  have HB := Lib.hid (show ∀ j, j < 8 → H j < 256 by rw [← hH]; exact hdF_lt d x)
  rw [hH] at HH
  rw [hH]
  clear hb1 hR1 hd hx hH
  go_enter Try.func15, Try.ntmps15
  go_upto_region 2 with fail
  rw [← hw1, ← hw2]
  clear hw1 hw2 hs1
  obtain ⟨gN, hgN⟩ : ∃ g : Nat, w.heap.size + 1 = g := ⟨_, rfl⟩
  rw [hgN] at hN2
  try rw [hgN]
  have hlN : w.heap.size < gN := by omega
  have hsN : w2.heap.size = gN + 1 := by omega
  clear hs2 hgN
  go_wp2_with fail
  refine (HH.out _).mono ?_
  rintro e w3 ⟨rfl, hq⟩
  have hR3 := hR2.to (by omega) hq
  have hN3 := hN2.to (by omega) hq
  have hb3 := hb2.trans (hq.mono hb2.size)
  have hlt3 : gN < w3.heap.size := hN3.lt (by omega)
  clear hq hR2 hN2 hb2 hsN
  have hb4 : Below w.heap.size w (w3.alloc (.cells (arL 8 fun _ => 0).toArray 24)) := hb3.alloc hb3.size _
  have hR4 : Ar (w3.alloc (.cells (arL 8 fun _ => 0).toArray 24)) w.heap.size 12 (fun _ => 0) := hR3.alloc (by omega) _
  have hN4 : Ar (w3.alloc (.cells (arL 8 fun _ => 0).toArray 24)) gN 12 (fun _ => 0) := hN3.alloc (by omega) _
  have hH4 : Ar (w3.alloc (.cells (arL 8 fun _ => 0).toArray 24)) w3.heap.size 8 (fun _ => 0) := Ar.new w3 8 _ _
  obtain ⟨gH, hgH⟩ : ∃ g : Nat, w3.heap.size = g := ⟨_, rfl⟩
  rw [hgH] at hH4 hlt3
  clear hR3 hN3
  go_upto_region 3 with (first | (refine wpList_store_ar rfl _ _ _ rfl _ _ _ H rfl rfl hH4 (size8n _) ?_; intro w5 hH5 hb5 hs5 hk5) | fail)
  have hR5 := hR4.keep (by omega) hb5
  have hN5 := hN4.keep (by omega) hb5
  have hB5 := hb4.trans (hb5.mono (by omega))
  clear hR4 hN4 hH4 hb4 hb3 hb5 hs5 hk5 hgH
  try dsimp only [Act.put]
  go_wp2_with fail
  go_loopw [7] (fun i wr => ∃ n : Nat, n ≤ 8 ∧ i = .int .i64 n ∧ Ar wr w.heap.size 12 (fun _ => 0) ∧ Ar wr gN 12 (noK H n) ∧ Ar wr gH 8 H ∧ Below w.heap.size w wr) (fun i _ => 8 - (intOf i).toNat)
  case atStart => exact ⟨0, Nat.zero_le _, rfl, hR5, by rw [noK_zero]; exact hN5, hH5, hB5⟩
  case round =>
    clear hR5 hN5 hH5 hB5
    obtain ⟨n, hn, rfl, hR, hN, hH, hB⟩ := hrel
    by_cases hlt : n < 8
    · have i1 : (n : Int) < 8 := by omega
      obtain ⟨c0, _⟩ := hH n hlt
      obtain ⟨q, hqn⟩ : ∃ q, 4 + n = q := ⟨_, rfl⟩
      have x1 : IntKind.i64.wrap (4 + (n : Int)) = (q : Int) := by rw [wraps_i64' _ (by omega) (by omega)]; omega
      have x2 : wrap64 (4 + (n : Int)) = (q : Int) := by rw [IntWalk.wrap64_in _ (by omega)]; omega
      have x3 : 4 + (n : Int) = (q : Int) := by omega
      have x4 : (q : Int) < 12 := by omega
      obtain ⟨c1, f1⟩ := hN q (by omega)
      have hN2 := Lib.hid ((hN.set (j := q) (v := H n) (by omega) rfl).ext (f' := noK H (n + 1)) (fun m _ => by rw [← hqn]; exact noK_step H n m))
      have hR2 := Lib.hid (hR.far (p := ⟨gN, q, none⟩) (by simp; omega) (.int .u8 (H n : Nat)))
      have hH2 := Lib.hid (hH.far (p := ⟨gN, q, none⟩) (by simp; omega) (.int .u8 (H n : Nat)))
      have hB2 := Lib.hid (hB.setCell (p := ⟨gN, q, none⟩) (by simp; omega) (.int .u8 (H n : Nat)))
      have HL := Lib.hid hlt
      clear hR hN hH hB hqn hlt hn
      obtain ⟨y, hy⟩ : ∃ y, H n = y := ⟨_, rfl⟩
      rw [hy] at c0 hN2 hR2 hH2 hB2
      clear hy
      obtain ⟨z, hzz⟩ : ∃ y, noK H n q = y := ⟨_, rfl⟩
      rw [hzz] at c1
      clear hzz
      go_wp2_with fail
      go_roundw
      case rel => exact ⟨n + 1, by have := HL.out; omega, by go_num, hR2.out, hN2.out, hH2.out, hB2.out⟩
      case measure => simp [intOf]; have := HL.out; omega
    · obtain rfl : n = 8 := by omega
      have hN2 := hN.ext (noK_all H)
      have i1 : ¬ (8 : Int) < 8 := by omega
      clear hN hlt hn hH
      go_wp2_with (first
        | (refine wpList_load_ar rfl _ _ rfl _ _ _ rfl hN2 Try.arr12n (size12n _) ?_)
        | (refine wpList_store_ar rfl _ _ _ rfl _ _ _ (noF H) rfl rfl hR (size12n _) ?_; intro w8 hA8 hb8 _ _))
      refine bodyPost_ret_ar rfl rfl hA8 Try.arr12n (size12n _) rfl ⟨rfl, ?_⟩
      exact hB.trans (hb8.mono (by omega))

set_option maxHeartbeats 1000000 in
theorem rphead (A : Option Addr) (n c : Nat) (l : List UInt8) (w : World) (h : Sl w w.heap.size A n l) (hn : 8 ≤ n) (hnc : n ≤ c) (hc : c ≤ maxLen) :
    Calls Try.prog 17 #[.slice A n c] w fun e w' => e = .returned (.tuple #[.int .i64 (hdD (l.take 8) : Nat), .int .u64 (hdX (l.take 8) : Nat)]) ∧ w' = w := by
  obtain ⟨b, off, rfl, hb, hcells⟩ := h.2 (by omega)
  have hS : Sl w w.heap.size (some ⟨b, off, none⟩) 8 (l.take 8) := by
    refine ⟨by rw [List.length_take, h.len]; omega, fun _ => ⟨b, off, rfl, hb, fun j u hu => hcells j u ?_⟩⟩
    rcases Nat.lt_or_ge j 8 with h1 | h1
    · rwa [List.getElem?_take_of_lt h1] at hu
    · rw [List.getElem?_eq_none (by rw [List.length_take]; omega)] at hu; cases hu
  clear h hcells
  obtain ⟨r, hr⟩ : ∃ r, l.take 8 = r := ⟨_, rfl⟩
  rw [hr] at hS
  rw [hr]
  clear hr
  obtain ⟨y, hy⟩ : ∃ y, num r = y := ⟨_, rfl⟩
  have HY := Lib.hid hy
  have hlt := num_lt r
  have i1 : (8 : Int) ≤ (c : Int) := by omega
  by_cases h8 : 9223372036854775808 ≤ y
  · have i2 : (9223372036854775808 : Int) ≤ (y : Int) := by omega
    obtain ⟨z, hz⟩ : ∃ z, y - 9223372036854775808 = z := ⟨_, rfl⟩
    have x1 : IntKind.u64.wrap (z : Int) = (z : Int) := wraps_u64' _ (by omega) (by omega)
    have x2 : (y : Int) - 9223372036854775808 = (z : Int) := by omega
    have HP := Lib.hid (show hdD r = 1 ∧ hdX r = z by unfold hdD hdX; rw [hy]; omega)
    rw [HP.out.1, HP.out.2]
    clear hy hz h8 hlt hb hn hnc hc
    go_enter Try.func17, Try.ntmps17
    go_upto_region 1 with fail
    go_wp2_with fail
    refine (refNumber _ 8 _ r _ hS (by omega)).mono ?_
    rintro e w1 ⟨rfl, rfl⟩
    rw [HY.out]
    clear hS i1
    go_wp2
    go_ret2
    exact ⟨rfl, rfl⟩
  · have i2 : decide ((9223372036854775808 : Int) ≤ (y : Int)) = false := decide_eq_false (by omega)
    have i3 : ¬ (9223372036854775808 : Int) ≤ (y : Int) := by omega
    have x1 : IntKind.u64.wrap (y : Int) = (y : Int) := wraps_u64' _ (by omega) (by omega)
    have HP := Lib.hid (show hdD r = 0 ∧ hdX r = y by unfold hdD hdX; rw [hy]; omega)
    rw [HP.out.1, HP.out.2]
    clear hy h8 hlt hb hn hnc hc
    go_enter Try.func17, Try.ntmps17
    go_upto_region 1 with fail
    go_wp2_with fail
    refine (refNumber _ 8 _ r _ hS (by omega)).mono ?_
    rintro e w1 ⟨rfl, rfl⟩
    rw [HY.out]
    clear hS i1
    go_wp2
    go_ret2
    exact ⟨rfl, rfl⟩
end Go.Proofs.Ytbjohffpjfglgaa
