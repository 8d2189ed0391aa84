/-
  Contract of the words of a key in the reference package of layer 5, by a walk through its text, for any key; what was there stays as it was.
-/
import Derived.Test.YtghcpfcomhfppaaDoorFre
import Derived.Test.YtghcpfcomhfppaaDoorSbu
import Derived.Test.YtghcpfcomhfppaaDoorFiw
import Derived.Deep.RegionHeld3
import Derived.BigRegion
import Derived.Test.YtghcpfcomhfppaaDoorKer
import Derived.Test.YtghcpfcomhfppaaDoorKel
namespace Go.Proofs.YtghcpfcomhfppaaDoor
open Go.RowKit
set_option linter.unusedVariables false
set_option maxRecDepth 100000

theorem Ar.set4 {w : World} {g n o v0 v1 v2 v3 : Nat} {f : Nat → Nat} (h : Ar w g n f) (ho : o + 3 < n) :
    Ar ((((w.setCell ⟨g, o, none⟩ (.int .u8 (v0 : Int))).setCell ⟨g, o + 1, none⟩ (.int .u8 (v1 : Int))).setCell ⟨g, o + 2, none⟩ (.int .u8 (v2 : Int))).setCell ⟨g, o + 3, none⟩ (.int .u8 (v3 : Int))) g n
      (fun i => if i = o + 3 then v3 else if i = o + 2 then v2 else if i = o + 1 then v1 else if i = o then v0 else f i) :=
  (((h.set (v := v0) (by omega) rfl).set (v := v1) (by omega) rfl).set (v := v2) (by omega) rfl).set (v := v3) (by omega) rfl
theorem Ar.far4 {w : World} {g g' n o o1 o2 o3 : Nat} {v0 v1 v2 v3 : Value} {f : Nat → Nat} (h : Ar w g n f) (hg : g' ≠ g) :
    Ar ((((w.setCell ⟨g', o, none⟩ v0).setCell ⟨g', o1, none⟩ v1).setCell ⟨g', o2, none⟩ v2).setCell ⟨g', o3, none⟩ v3) g n f :=
  (((h.far (p := ⟨g', o, none⟩) hg _).far (p := ⟨g', o1, none⟩) hg _).far (p := ⟨g', o2, none⟩) hg _).far (p := ⟨g', o3, none⟩) hg _
theorem below_set4 {B : Nat} {a w : World} {g' o o1 o2 o3 : Nat} {v0 v1 v2 v3 : Value} (h : Below B a w) (hg : B ≤ g') :
    Below B a ((((w.setCell ⟨g', o, none⟩ v0).setCell ⟨g', o1, none⟩ v1).setCell ⟨g', o2, none⟩ v2).setCell ⟨g', o3, none⟩ v3) :=
  (((h.setCell (p := ⟨g', o, none⟩) hg _).setCell (p := ⟨g', o1, none⟩) hg _).setCell (p := ⟨g', o2, none⟩) hg _).setCell (p := ⟨g', o3, none⟩) hg _
theorem ek_four (f : Nat → Nat) (n m : Nat) (h4 : n < 4) :
    (if m = n * 4 + 3 then f (4 * n + 3) else if m = n * 4 + 2 then f (4 * n + 2) else if m = n * 4 + 1 then f (4 * n + 1) else if m = n * 4 then f (4 * n) else (if m < 4 * n then ek f m else 0)) = if m < 4 * (n + 1) then ek f m else 0 := by
  have k0 : m = n * 4 + 3 → ek f m = f (4 * n + 3) := fun h => by rw [h, ek_key _ _ (by omega)]; congr 1; omega
  have k1 : m = n * 4 + 2 → ek f m = f (4 * n + 2) := fun h => by rw [h, ek_key _ _ (by omega)]; congr 1; omega
  have k2 : m = n * 4 + 1 → ek f m = f (4 * n + 1) := fun h => by rw [h, ek_key _ _ (by omega)]; congr 1; omega
  have k3 : m = n * 4 → ek f m = f (4 * n) := fun h => by rw [h, ek_key _ _ (by omega)]; congr 1; omega
  by_cases h0 : m = n * 4 + 3
  · rw [if_pos h0, if_pos (by omega), k0 h0]
  rw [if_neg h0]
  by_cases h1 : m = n * 4 + 2
  · rw [if_pos h1, if_pos (by omega), k1 h1]
  rw [if_neg h1]
  by_cases h2 : m = n * 4 + 1
  · rw [if_pos h2, if_pos (by omega), k2 h2]
  rw [if_neg h2]
  by_cases h3 : m = n * 4
  · rw [if_pos h3, if_pos (by omega), k3 h3]
  rw [if_neg h3]
  by_cases h5 : m < 4 * n
  · rw [if_pos h5, if_pos (by omega)]
  · rw [if_neg h5, if_neg (by omega)]
theorem Tryd.zero176 : (Tryd.prog.info? 52).map (fun i => (i.zero, i.size)) = some (some (.agg (Array.replicate 176 (.int .u8 0))), 176) := by kernel_rfl
theorem Tryd.arr44 : Tryd.prog.underlying 52 = some (.array 44 32) := by kernel_rfl
theorem size176 (f : Nat → Nat) : (Tryd.prog.info? 52).map (·.size) = some (arL 176 f).length := by rw [arL_len]; exact (zero_of_info Tryd.zero176).2
theorem zero176 (w : World) : (zeroValue 52).run Tryd.prog w = .ok (.agg (arL 176 fun _ => 0).toArray) w := by
  rw [arL_zero]; exact (zero_of_info Tryd.zero176).1 w

set_option maxHeartbeats 1600000 in
theorem refwords (f : Nat → Nat) (hf : ∀ j, j < 16 → f j < 256) (w : World) :
    Calls Tryd.prog 42 #[.agg (arL 16 f).toArray] w fun e w' => e = .returned (.agg (arL 176 (ek f)).toArray) ∧ Below w.heap.size w w' := by
  have hz := zero176
  have hz2 := zero256
  obtain ⟨kA, hkA⟩ : ∃ kA : Array Value, (arL 16 f).toArray = kA := ⟨_, rfl⟩
  obtain ⟨w1, hw1⟩ : ∃ w1 : World, w1 = w.alloc (.cells (arL 16 f).toArray 22) := ⟨_, rfl⟩
  have hs1 : w1.heap.size = w.heap.size + 1 := by rw [hw1]; simp
  have hb1 : Below w.heap.size w w1 := by rw [hw1]; exact (Below.refl _ _).alloc (Nat.le_refl _) _
  have hK1 : Ar w1 w.heap.size 16 f := by rw [hw1]; exact Ar.new w 16 _ _
  obtain ⟨w2, hw2⟩ : ∃ w2 : World, w2 = w1.alloc (.cells (arL 176 fun _ => 0).toArray 52) := ⟨_, rfl⟩
  have hs2 : w2.heap.size = w.heap.size + 2 := by rw [hw2]; simp [hs1]
  have hb2 : Below w.heap.size w w2 := by rw [hw2]; exact hb1.alloc (by omega) _
  have hR2 : Ar w2 (w.heap.size + 1) 176 (fun _ => 0) := by rw [hw2, ← hs1]; exact Ar.new w1 176 _ _
  have hK2 : Ar w2 w.heap.size 16 f := by rw [hw2]; exact hK1.alloc (by omega) _
  rw [hkA] at hw1
  clear hb1 hK1 hs1
  rw [hkA]
  go_enter Tryd.func42, Tryd.ntmps42
  go_upto_region 1 with fail
  rw [← hw1, ← hw2]
  clear hw1 hw2
  go_wp2_with fail
  refine (reftable _).mono ?_
  rintro e w3 ⟨rfl, k3⟩
  have hK3 := hK2.to (by omega) k3
  have hR3 := hR2.to (by omega) k3
  have hb3 := hb2.trans (k3.mono hb2.size)
  have hs3 := k3.size
  obtain ⟨gt, hgt⟩ : ∃ gt : Nat, w3.heap.size = gt := ⟨_, rfl⟩
  have hT4 : Ar (w3.alloc (.cells (arL 256 fun _ => 0).toArray 27)) gt 256 (fun _ => 0) := by rw [← hgt]; exact Ar.new w3 256 _ _
  have hK4 : Ar (w3.alloc (.cells (arL 256 fun _ => 0).toArray 27)) w.heap.size 16 f := hK3.alloc (by omega) _
  have hR4 : Ar (w3.alloc (.cells (arL 256 fun _ => 0).toArray 27)) (w.heap.size + 1) 176 (fun _ => 0) := hR3.alloc (by omega) _
  have hb4 : Below w.heap.size w (w3.alloc (.cells (arL 256 fun _ => 0).toArray 27)) := hb3.alloc (by omega) _
  have hsz4 : (w3.alloc (.cells (arL 256 fun _ => 0).toArray 27)).heap.size = gt + 1 := by simp [hgt]
  clear hK2 hR2 hb2 hK3 hR3 k3
  go_upto_region 2 with (refine wpList_store_ar rfl _ _ _ rfl _ _ _ sb rfl rfl hT4 (size_arL _) ?_; intro w5 hT5 hb5 hs5 hk5)
  have hK5 := hk5 _ _ _ (by omega) hK4
  have hR5 := hk5 _ _ _ (by omega) hR4
  have hB5 := hb4.trans (hb5.mono (by omega))
  rw [hsz4] at hs5
  clear hT4 hK4 hR4 hb4 hb5 hk5 hsz4
  dsimp only [Act.put]
  obtain ⟨w6, hw6⟩ : ∃ w6 : World, w6 = w5.alloc (.cells (arL 176 fun _ => 0).toArray 52) := ⟨_, rfl⟩
  have hs6 : w6.heap.size = gt + 2 := by rw [hw6]; simp [hs5]
  have hW6 : Ar w6 (gt + 1) 176 (fun _ => 0) := by rw [hw6, ← hs5]; exact Ar.new w5 176 _ _
  have hK6 : Ar w6 w.heap.size 16 f := by rw [hw6]; exact hK5.alloc (by omega) _
  have hR6 : Ar w6 (w.heap.size + 1) 176 (fun _ => 0) := by rw [hw6]; exact hR5.alloc (by omega) _
  have hT6 : Ar w6 gt 256 sb := by rw [hw6]; exact hT5.alloc (by omega) _
  have hB6 : Below w.heap.size w w6 := by rw [hw6]; exact hB5.alloc (by have := hB5.size; omega) _
  clear hK5 hR5 hB5 hT5
  go_upto_region 3 with fail
  rw [← hw6]
  clear hw6 hs5
  have hge : w.heap.size + 2 ≤ gt := by omega
  obtain ⟨gW, hgW⟩ : ∃ gW : Nat, gt + 1 = gW := ⟨_, rfl⟩
  have hgW2 : gt < gW := by omega
  rw [hgW] at hW6
  rw [hgW]
  clear hs2 hs3 hs6 hb3 hgt hkA
  go_wp2_with fail
  go_loopw [5] (fun i wr => ∃ n : Nat, n ≤ 44 ∧ i = .int .i64 n ∧ Ar wr w.heap.size 16 f ∧ Ar wr (w.heap.size + 1) 176 (fun _ => 0) ∧ Ar wr gt 256 sb ∧ Ar wr gW 176 (fun m => if m < 4 * n then ek f m else 0) ∧ Below w.heap.size w wr) (fun i _ => 44 - (intOf i).toNat)
  case atStart => exact ⟨0, Nat.zero_le _, rfl, hK6, hR6, hT6, hW6.ext (fun j _ => rfl), hB6⟩
  case round =>
    clear hK6 hR6 hT6 hW6 hB6
    obtain ⟨n, hn, rfl, hK, hR, hT, hW, hB⟩ := hrel
    by_cases hlt : n < 44
    · by_cases h4 : n < 4
      · obtain ⟨a, ha⟩ : ∃ a : Nat, a = 4 * n := ⟨_, rfl⟩
        obtain ⟨a1, ha1⟩ : ∃ a1 : Nat, a1 = 4 * n + 1 := ⟨_, rfl⟩
        obtain ⟨a2, ha2⟩ : ∃ a2 : Nat, a2 = 4 * n + 2 := ⟨_, rfl⟩
        obtain ⟨a3, ha3⟩ : ∃ a3 : Nat, a3 = 4 * n + 3 := ⟨_, rfl⟩
        have e0 : wrap64 (4 * (n : Int)) = (a : Int) := by rw [IntWalk.wrap64_in _ (by omega)]; omega
        have e1 : wrap64 ((a : Int) + 1) = (a1 : Int) := by rw [IntWalk.wrap64_in _ (by omega)]; omega
        have e2 : wrap64 ((a : Int) + 2) = (a2 : Int) := by rw [IntWalk.wrap64_in _ (by omega)]; omega
        have e3 : wrap64 ((a : Int) + 3) = (a3 : Int) := by rw [IntWalk.wrap64_in _ (by omega)]; omega
        have d0 : IntKind.i64.wrap (4 * (n : Int)) = (a : Int) := by rw [wraps_i64' _ (by omega) (by omega)]; omega
        have d1 : IntKind.i64.wrap ((a : Int) + 1) = (a1 : Int) := by rw [wraps_i64' _ (by omega) (by omega)]; omega
        have d2 : IntKind.i64.wrap ((a : Int) + 2) = (a2 : Int) := by rw [wraps_i64' _ (by omega) (by omega)]; omega
        have d3 : IntKind.i64.wrap ((a : Int) + 3) = (a3 : Int) := by rw [wraps_i64' _ (by omega) (by omega)]; omega
        have c0 := (hK a (by omega)).1
        have c1 := (hK a1 (by omega)).1
        have c2 := (hK a2 (by omega)).1
        have c3 := (hK a3 (by omega)).1
        have i0 : (a : Int) < 16 := by omega
        have i1 : (a1 : Int) < 16 := by omega
        have i2 : (a2 : Int) < 16 := by omega
        have i3 : (a3 : Int) < 16 := by omega
        have i4 : (n : Int) < 44 := by omega
        have hN := Lib.hid (show a = 4 * n ∧ a1 = 4 * n + 1 ∧ a2 = 4 * n + 2 ∧ a3 = 4 * n + 3 from ⟨ha, ha1, ha2, ha3⟩)
        obtain ⟨g0, f0⟩ := hW (n * 4) (by omega)
        obtain ⟨g1, f1⟩ := hW (n * 4 + 1) (by omega)
        obtain ⟨g2, f2⟩ := hW (n * 4 + 2) (by omega)
        obtain ⟨g3, f3⟩ := hW (n * 4 + 3) (by omega)
        clear ha ha1 ha2 ha3
        go_wp2_with fail
        refine wp_region_noPanic ?_
        go_big_region
        refine NoPanic.normal ?_
        obtain ⟨ha, ha1, ha2, ha3⟩ := hN.out
        subst ha ha1 ha2 ha3
        have hW2 := (hW.set4 (o := n * 4) (v0 := f (4 * n)) (v1 := f (4 * n + 1)) (v2 := f (4 * n + 2)) (v3 := f (4 * n + 3)) (by omega)).ext (fun m _ => ek_four f n m h4)
        have hK2 := hK.far4 (g' := gW) (o := n * 4) (o1 := n * 4 + 1) (o2 := n * 4 + 2) (o3 := n * 4 + 3) (v0 := .int .u8 (f (4 * n) : Nat)) (v1 := .int .u8 (f (4 * n + 1) : Nat)) (v2 := .int .u8 (f (4 * n + 2) : Nat)) (v3 := .int .u8 (f (4 * n + 3) : Nat)) (by omega)
        have hR2 := hR.far4 (g' := gW) (o := n * 4) (o1 := n * 4 + 1) (o2 := n * 4 + 2) (o3 := n * 4 + 3) (v0 := .int .u8 (f (4 * n) : Nat)) (v1 := .int .u8 (f (4 * n + 1) : Nat)) (v2 := .int .u8 (f (4 * n + 2) : Nat)) (v3 := .int .u8 (f (4 * n + 3) : Nat)) (by omega)
        have hT2 := hT.far4 (g' := gW) (o := n * 4) (o1 := n * 4 + 1) (o2 := n * 4 + 2) (o3 := n * 4 + 3) (v0 := .int .u8 (f (4 * n) : Nat)) (v1 := .int .u8 (f (4 * n + 1) : Nat)) (v2 := .int .u8 (f (4 * n + 2) : Nat)) (v3 := .int .u8 (f (4 * n + 3) : Nat)) (by omega)
        have hB2 := below_set4 (B := w.heap.size) hB (g' := gW) (o := n * 4) (o1 := n * 4 + 1) (o2 := n * 4 + 2) (o3 := n * 4 + 3) (v0 := .int .u8 (f (4 * n) : Nat)) (v1 := .int .u8 (f (4 * n + 1) : Nat)) (v2 := .int .u8 (f (4 * n + 2) : Nat)) (v3 := .int .u8 (f (4 * n + 3) : Nat)) (by omega)
        clear hK hR hT hW hB c0 c1 c2 c3 g0 g1 g2 g3 f0 f1 f2 f3 e0 e1 e2 e3 d0 d1 d2 d3
        obtain ⟨w7, hw7⟩ : ∃ w7 : World, w7 = ((((wr.setCell ⟨gW, n * 4, none⟩ (.int .u8 (f (4 * n) : Nat))).setCell ⟨gW, n * 4 + 1, none⟩ (.int .u8 (f (4 * n + 1) : Nat))).setCell ⟨gW, n * 4 + 2, none⟩ (.int .u8 (f (4 * n + 2) : Nat))).setCell ⟨gW, n * 4 + 3, none⟩ (.int .u8 (f (4 * n + 3) : Nat))) := ⟨_, rfl⟩
        rw [← hw7] at hW2 hK2 hR2 hT2 hB2
        rw [← hw7]
        clear hw7
        go_wp2_with fail
        go_roundw
        case rel => exact ⟨n + 1, by omega, by go_num, hK2.drew, hR2.drew, hT2.drew, hW2.drew, hB2.drew⟩
        case measure => simp [intOf]; omega
      · obtain ⟨g0, f0⟩ := hW.low (j := (n - 1) * 4) (by omega) (by omega)
        obtain ⟨g1, f1⟩ := hW.low (j := (n - 1) * 4 + 1) (by omega) (by omega)
        obtain ⟨g2, f2⟩ := hW.low (j := (n - 1) * 4 + 2) (by omega) (by omega)
        obtain ⟨g3, f3⟩ := hW.low (j := (n - 1) * 4 + 3) (by omega) (by omega)
        have i0 : (n : Int) - 1 < 44 := by omega
        have h4i : ¬ ((n : Int) < 4) := by omega
        have hgWl := hW.lt (by omega)
        obtain ⟨gB, hgB⟩ : ∃ gB : Nat, wr.heap.size = gB := ⟨_, rfl⟩
        obtain ⟨w7, hw7⟩ : ∃ w7 : World, w7 = wr.alloc (.cells #[.int .u8 (ek f ((n - 1) * 4) : Nat), .int .u8 (ek f ((n - 1) * 4 + 1) : Nat), .int .u8 (ek f ((n - 1) * 4 + 2) : Nat), .int .u8 (ek f ((n - 1) * 4 + 3) : Nat)] 32) := ⟨_, rfl⟩
        have hK7 : Ar w7 w.heap.size 16 f := by rw [hw7]; exact hK.alloc (by omega) _
        have hR7 : Ar w7 (w.heap.size + 1) 176 (fun _ => 0) := by rw [hw7]; exact hR.alloc (by omega) _
        have hT7 : Ar w7 gt 256 sb := by rw [hw7]; exact hT.alloc (by omega) _
        have hW7 : Ar w7 gW 176 (fun m => if m < 4 * n + 0 then ek f m else 0) := by rw [hw7]; exact hW.alloc (by omega) _
        have hB7 : Below w.heap.size w w7 := by rw [hw7]; exact hB.alloc (by have := hB.size; omega) _
        have hTB7 : Ar w7 gB 4 (fun k => ek f ((n - 1) * 4 + k)) := by rw [hw7, ← hgB]; exact Ar.new wr 4 (fun k => ek f ((n - 1) * 4 + k)) _
        rw [hgB] at hgWl
        clear hK hR hT hW hB
        go_upto_region 9 with fail
        rw [← hw7]
        clear hw7 g0 g1 g2 g3 f0 f1 f2 f3
        by_cases hm : n % 4 = 0
        · have ht : ((n : Int).tmod 4 == 0) = true := by rw [Int.tmod_eq_emod_of_nonneg (by omega)]; simp; omega
          have htl : ∀ k, ek f k < 256 := ek_lt f hf
          have hsl := sb_lt
          have l0 : ((ek f ((n - 1) * 4) : Nat) : Int) < 256 := by have := htl ((n - 1) * 4); omega
          have l1 : ((ek f ((n - 1) * 4 + 1) : Nat) : Int) < 256 := by have := htl ((n - 1) * 4 + 1); omega
          have l2 : ((ek f ((n - 1) * 4 + 2) : Nat) : Int) < 256 := by have := htl ((n - 1) * 4 + 2); omega
          have l3 : ((ek f ((n - 1) * 4 + 3) : Nat) : Int) < 256 := by have := htl ((n - 1) * 4 + 3); omega
          obtain ⟨t0, v0⟩ := hTB7 0 (by omega)
          obtain ⟨t1, v1⟩ := hTB7 1 (by omega)
          obtain ⟨t2, v2⟩ := hTB7 2 (by omega)
          obtain ⟨t3, v3⟩ := hTB7 3 (by omega)
          have b0 := (hT7 _ (htl ((n - 1) * 4))).1
          have b1 := (hT7 _ (htl ((n - 1) * 4 + 1))).1
          have b2 := (hT7 _ (htl ((n - 1) * 4 + 2))).1
          have b3 := (hT7 _ (htl ((n - 1) * 4 + 3))).1
          have hLL := Lib.hid htl
          have hSS := Lib.hid hsl
          clear htl hsl
          go_upto_region 10 with fail
          refine kwReg10 (ek f ((n - 1) * 4)) (ek f ((n - 1) * 4 + 1)) (ek f ((n - 1) * 4 + 2)) (ek f ((n - 1) * 4 + 3)) (sb (ek f ((n - 1) * 4))) (sb (ek f ((n - 1) * 4 + 1))) (sb (ek f ((n - 1) * 4 + 2))) (sb (ek f ((n - 1) * 4 + 3))) gt gB t0 v0 t1 v1 t2 v2 t3 v3 b0 (hLL.out _) b1 (hLL.out _) b2 (hLL.out _) b3 (hLL.out _) ?_
          have hT1a := (hTB7.set4 (o := 0) (v0 := sb (ek f ((n - 1) * 4 + 1))) (v1 := sb (ek f ((n - 1) * 4 + 2))) (v2 := sb (ek f ((n - 1) * 4 + 3))) (v3 := sb (ek f ((n - 1) * 4))) (by omega)).ext (f' := fun k => sb (ek f ((n - 1) * 4 + (k + 1) % 4))) (fun k hk => by
            rcases (show k = 0 ∨ k = 1 ∨ k = 2 ∨ k = 3 by omega) with rfl | rfl | rfl | rfl <;> rfl)
          have hK8a := hK7.far4 (g' := gB) (o := 0) (o1 := 1) (o2 := 2) (o3 := 3) (v0 := .int .u8 (sb (ek f ((n - 1) * 4 + 1)) : Nat)) (v1 := .int .u8 (sb (ek f ((n - 1) * 4 + 2)) : Nat)) (v2 := .int .u8 (sb (ek f ((n - 1) * 4 + 3)) : Nat)) (v3 := .int .u8 (sb (ek f ((n - 1) * 4)) : Nat)) (by omega)
          have hR8a := hR7.far4 (g' := gB) (o := 0) (o1 := 1) (o2 := 2) (o3 := 3) (v0 := .int .u8 (sb (ek f ((n - 1) * 4 + 1)) : Nat)) (v1 := .int .u8 (sb (ek f ((n - 1) * 4 + 2)) : Nat)) (v2 := .int .u8 (sb (ek f ((n - 1) * 4 + 3)) : Nat)) (v3 := .int .u8 (sb (ek f ((n - 1) * 4)) : Nat)) (by omega)
          have hT8a := hT7.far4 (g' := gB) (o := 0) (o1 := 1) (o2 := 2) (o3 := 3) (v0 := .int .u8 (sb (ek f ((n - 1) * 4 + 1)) : Nat)) (v1 := .int .u8 (sb (ek f ((n - 1) * 4 + 2)) : Nat)) (v2 := .int .u8 (sb (ek f ((n - 1) * 4 + 3)) : Nat)) (v3 := .int .u8 (sb (ek f ((n - 1) * 4)) : Nat)) (by omega)
          have hW8a := hW7.far4 (g' := gB) (o := 0) (o1 := 1) (o2 := 2) (o3 := 3) (v0 := .int .u8 (sb (ek f ((n - 1) * 4 + 1)) : Nat)) (v1 := .int .u8 (sb (ek f ((n - 1) * 4 + 2)) : Nat)) (v2 := .int .u8 (sb (ek f ((n - 1) * 4 + 3)) : Nat)) (v3 := .int .u8 (sb (ek f ((n - 1) * 4)) : Nat)) (by omega)
          have hB8a := below_set4 (B := w.heap.size) hB7 (g' := gB) (o := 0) (o1 := 1) (o2 := 2) (o3 := 3) (v0 := .int .u8 (sb (ek f ((n - 1) * 4 + 1)) : Nat)) (v1 := .int .u8 (sb (ek f ((n - 1) * 4 + 2)) : Nat)) (v2 := .int .u8 (sb (ek f ((n - 1) * 4 + 3)) : Nat)) (v3 := .int .u8 (sb (ek f ((n - 1) * 4)) : Nat)) (by omega)
          obtain ⟨w8, hw8⟩ : ∃ w8 : World, w8 = ((((w7.setCell ⟨gB, 0, none⟩ (.int .u8 (sb (ek f ((n - 1) * 4 + 1)) : Nat))).setCell ⟨gB, 1, none⟩ (.int .u8 (sb (ek f ((n - 1) * 4 + 2)) : Nat))).setCell ⟨gB, 2, none⟩ (.int .u8 (sb (ek f ((n - 1) * 4 + 3)) : Nat))).setCell ⟨gB, 3, none⟩ (.int .u8 (sb (ek f ((n - 1) * 4)) : Nat))).drew := ⟨_, rfl⟩
          have hT1 : Ar w8 gB 4 (fun k => sb (ek f ((n - 1) * 4 + (k + 1) % 4))) := by rw [hw8]; exact hT1a.drew
          have hK8 : Ar w8 w.heap.size 16 f := by rw [hw8]; exact hK8a.drew
          have hR8 : Ar w8 (w.heap.size + 1) 176 (fun _ => 0) := by rw [hw8]; exact hR8a.drew
          have hT8 : Ar w8 gt 256 sb := by rw [hw8]; exact hT8a.drew
          have hW8 : Ar w8 gW 176 (fun m => if m < 4 * n + 0 then ek f m else 0) := by rw [hw8]; exact hW8a.drew
          have hB8 : Below w.heap.size w w8 := by rw [hw8]; exact hB8a.drew
          rw [← hw8]
          clear hT1a hK8a hR8a hT8a hW8a hB8a
          clear hw8 t0 t1 t2 t3 v0 v1 v2 v3 b0 b1 b2 b3 hK7 hR7 hT7 hW7 hB7 hTB7 l0 l1 l2 l3
          obtain ⟨q, hq⟩ : ∃ q : Nat, q = n / 4 := ⟨_, rfl⟩
          obtain ⟨p, hp⟩ : ∃ p : Nat, p = q - 1 := ⟨_, rfl⟩
          have q1 : ((n : Int)).tdiv 4 = (q : Int) := by rw [Int.tdiv_eq_ediv_of_nonneg (by omega)]; omega
          have q2 : wrap64 ((q : Int) - 1) = (p : Int) := by rw [IntWalk.wrap64_in _ (by omega)]; omega
          have q5 : (n : Int) / 4 = (q : Int) := by omega
          have q6 : IntKind.i64.wrap ((q : Int) - 1) = (p : Int) := by rw [wraps_i64' _ (by omega) (by omega)]; omega
          have q7 : IntKind.i64.wrap (q : Int) = (q : Int) := wraps_i64' _ (by omega) (by omega)
          have q3 : p ≤ 1000 := by omega
          have hPQ := Lib.hid (show p = n / 4 - 1 by omega)
          have q4 : 1 ≤ q := by omega
          have hqn := hq
          have hpq := hp
          clear hq hp
          obtain ⟨x0, hx0⟩ : ∃ x0 : Nat, sb (ek f ((n - 1) * 4 + 1)) = x0 := ⟨_, rfl⟩
          have hx0l : x0 < 256 := by rw [← hx0]; exact hSS.out _
          have hpl := pwr_lt 2 p
          have hT1b := hT1.ext (f' := fun k => if k = 0 then x0 else sb (ek f ((n - 1) * 4 + (k + 1) % 4))) (fun k hk => by
            by_cases h : k = 0
            · rw [if_pos h, ← hx0, h]
            · rw [if_neg h])
          have t0 : w8.cell? ⟨gB, 0, none⟩ = some (.int .u8 (x0 : Nat)) := (hT1b 0 (by omega)).1
          have v0 := (hT1b 0 (by omega)).2
          clear hT1
          clear ht hgB hgW
          have hxx : bits BinOp.xor IntKind.u8 ((x0 : Nat) : Int) ((pwr 2 p : Nat) : Int) = ((x0 ^^^ pwr 2 p : Nat) : Int) := xor_n8 _ _ hx0l hpl
          have hX0 := Lib.hid hx0
          clear hx0
          go_upto_region 11 with fail
          refine kwReg11 n q p x0 gB hlt hqn q4 hpq hx0l t0 v0 ?_
          intro w9 hb9
          have hK9 := hK8.to (by decide) hb9
          have hR9 := hR8.to (by decide) hb9
          have hT9 := hT8.to (by decide) hb9
          have hW9 := hW8.to (by decide) hb9
          have hTB9 := hT1b.to (by decide) hb9
          have hB9 := hB8.trans (hb9.mono hB8.size)
          obtain ⟨T, hTd⟩ : ∃ T : Nat → Nat, T = fun k => sb (ek f (4 * (n - 1) + (k + 1) % 4)) ^^^ (if k = 0 then pwr 2 (n / 4 - 1) else 0) := ⟨_, rfl⟩
          have hTl := Lib.hid (show ∀ k, k < 4 → T k < 256 from fun k _ => by rw [hTd]; exact xor_lt _ _ (hSS.out _) (if0_lt k _ (pwr_lt 2 _)))
          have hxor := Lib.hid (show ∀ k, k < 4 → ek f ((n - 4) * 4 + k) ^^^ T k = ek f (4 * n + k) from fun k hk => by
            rw [hTd, ek_first f n k (by omega) hm hk, Nat.mul_comm (n - 4) 4])
          have hTB := (hTB9.set (j := 0) (v := x0 ^^^ pwr 2 p) (by decide) rfl).ext (f' := T) (fun k hk => by
            rw [hTd]
            by_cases h : k = 0
            · subst h
              simp only [if_pos]
              rw [← hX0.out, hPQ.out, Nat.mul_comm (n - 1) 4]
            · simp only [if_neg h, Nat.xor_zero]
              rw [Nat.mul_comm (n - 1) 4])
          have hKx := hK9.far (p := ⟨gB, 0, none⟩) (by simp; omega) (.int .u8 ((x0 ^^^ pwr 2 p : Nat) : Int))
          have hRx := hR9.far (p := ⟨gB, 0, none⟩) (by simp; omega) (.int .u8 ((x0 ^^^ pwr 2 p : Nat) : Int))
          have hTx := hT9.far (p := ⟨gB, 0, none⟩) (by simp; omega) (.int .u8 ((x0 ^^^ pwr 2 p : Nat) : Int))
          have hWx := hW9.far (p := ⟨gB, 0, none⟩) (by simp; omega) (.int .u8 ((x0 ^^^ pwr 2 p : Nat) : Int))
          have hBx := hB9.setCell (p := ⟨gB, 0, none⟩) (by simp; omega) (.int .u8 ((x0 ^^^ pwr 2 p : Nat) : Int))
          obtain ⟨wx, hwx⟩ : ∃ wx : World, wx = w9.setCell ⟨gB, 0, none⟩ (.int .u8 ((x0 ^^^ pwr 2 p : Nat) : Int)) := ⟨_, rfl⟩
          rw [← hwx] at hTB hKx hRx hTx hWx hBx
          rw [← hwx]
          clear hwx hTd hK9 hR9 hT9 hW9 hTB9 hB9 hb9 hK8 hR8 hT8 hW8 hT1b hB8 t0 v0 hxx hpl q5 q6 q7 q1 q2 q3 q4 hqn hpq
          go_wp2_with fail
          refine kwLoop n f T gB gW (by omega) hlt (by omega) (ek_lt f hf) hTl.out hxor.out hTB hWx ?_
          intro w' u7 u69 u70 u71 u72 u73 u74 u75 u76 u77 u78 u79 u80 u81 u82 u83 u84 u85 u86 hW hO
          have hK := hO.1 _ _ _ (by omega) hKx
          have hR := hO.1 _ _ _ (by omega) hRx
          have hT := hO.1 _ _ _ (by omega) hTx
          have hB := hO.2 _ _ (by omega) hBx
          clear hKx hRx hTx hTB hWx hBx hO
          go_wp2_with fail
          go_roundw
          case rel => exact ⟨n + 1, by omega, by go_num, hK, hR, hT, hW, hB⟩
          case measure => simp [intOf]; omega
        · have ht : ((n : Int).tmod 4 == 0) = false := by rw [Int.tmod_eq_emod_of_nonneg (by omega)]; simp; omega
          obtain ⟨T, hTd⟩ : ∃ T : Nat → Nat, T = fun k => ek f ((n - 1) * 4 + k) := ⟨_, rfl⟩
          rw [← hTd] at hTB7
          have hTl := Lib.hid (show ∀ k, k < 4 → T k < 256 from fun k _ => by rw [hTd]; exact ek_lt f hf _)
          have hxor := Lib.hid (show ∀ k, k < 4 → ek f ((n - 4) * 4 + k) ^^^ T k = ek f (4 * n + k) from fun k hk => by
            rw [hTd, ek_more f n k (by omega) hm hk, Nat.mul_comm (n - 4) 4, Nat.mul_comm (n - 1) 4])
          clear hTd
          obtain ⟨wx, hwx⟩ : ∃ wx : World, wx = w7 := ⟨_, rfl⟩
          rw [← hwx] at hK7 hR7 hT7 hTB7 hW7 hB7
          rw [← hwx]
          clear hwx
          have hKx := hK7
          have hRx := hR7
          have hTx := hT7
          have hTB := hTB7
          have hWx := hW7
          have hBx := hB7
          clear hK7 hR7 hT7 hTB7 hW7 hB7
          go_wp2_with fail
          refine kwLoop n f T gB gW (by omega) hlt (by omega) (ek_lt f hf) hTl.out hxor.out hTB hWx ?_
          intro w' u7 u69 u70 u71 u72 u73 u74 u75 u76 u77 u78 u79 u80 u81 u82 u83 u84 u85 u86 hW hO
          have hK := hO.1 _ _ _ (by omega) hKx
          have hR := hO.1 _ _ _ (by omega) hRx
          have hT := hO.1 _ _ _ (by omega) hTx
          have hB := hO.2 _ _ (by omega) hBx
          clear hKx hRx hTx hTB hWx hBx hO
          go_wp2_with fail
          go_roundw
          case rel => exact ⟨n + 1, by omega, by go_num, hK, hR, hT, hW, hB⟩
          case measure => simp [intOf]; omega
    · obtain rfl : n = 44 := by omega
      have hW2 := hW.ext (f' := ek f) (fun j hj => by rw [if_pos (by omega)])
      clear hW
      go_wp2_with (first
        | (refine wpList_load_ar rfl _ _ rfl _ _ _ rfl hW2 Tryd.arr44 (size176 _) ?_)
        | (refine wpList_store_ar rfl _ _ _ rfl _ _ _ (ek f) rfl rfl hR (size176 _) ?_; intro w8 hA8 hb8 _ _))
      refine bodyPost_ret_ar rfl rfl hA8 Tryd.arr44 (size176 _) rfl ⟨rfl, ?_⟩
      exact hB.trans (hb8.mono (by omega))
end Go.Proofs.YtghcpfcomhfppaaDoor
