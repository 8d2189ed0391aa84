/-
  The walk of the law FastChains of layer 7: for every key, block and number it returns true, and writes nothing that was there.
-/
import Derived.Test.YtejgeefhnpeejaaDoorFao
import Derived.Test.YtejgeefhnpeejaaDoorFap
import Derived.Test.YtejgeefhnpeejaaDoorCxl
import Derived.Test.YtejgeefhnpeejaaDoorEqs
import Derived.Test.YtejgeefhnpeejaaDoorArg
import Derived.Deep.RegionHeld3
namespace Go.Proofs.YtejgeefhnpeejaaDoor
open Go.RowKit
set_option linter.unusedVariables false
set_option maxRecDepth 100000

/-- A block encrypted r times. -/
def itE (f b : Nat → Nat) : Nat → Nat → Nat
  | 0 => b
  | r + 1 => enF f (itE f b r)
theorem itE_lt {f b : Nat → Nat} (hf : B16 f) (hb : B16 b) : ∀ r, B16 (itE f b r)
  | 0 => hb
  | r + 1 => enR_lt hf (itE_lt hf hb r) 10

set_option maxHeartbeats 8000000 in
theorem fchains (f : Nat → Nat) (b : Nat → Nat) (n : Nat) (w : World) (hf : ∀ j, j < 16 → f j < 256) (hb : ∀ j, j < 16 → b j < 256) (hn : n < 256) (hs : Boxes w) :
    Calls Tryd.prog 7 #[.agg (arL 16 f).toArray, .agg (arL 16 b).toArray, .int .u8 n] w fun e w' => e = .returned (.bool true) ∧ Below w.heap.size w w' := by
  have HX := Lib.hid hs
  have hz := zero16b
  have hzK := zeroK
  obtain ⟨m, hm⟩ : ∃ m : Nat, m = n % 6 := ⟨_, rfl⟩
  have hm1 : ((n : Int)).tmod 6 = (m : Int) := by rw [Int.tmod_eq_emod_of_nonneg (by omega)]; omega
  have hm2 : (n : Int) % 6 = (m : Int) := by omega
  have hm6 : m < 6 := by omega
  clear hm
  have Hf := Lib.hid hf
  have Hb := Lib.hid hb
  obtain ⟨kf, hkf⟩ : ∃ k : Array Value, (arL 16 f).toArray = k := ⟨_, rfl⟩
  obtain ⟨kb, hkb⟩ : ∃ k : Array Value, (arL 16 b).toArray = k := ⟨_, rfl⟩
  obtain ⟨w1, hw1⟩ : ∃ V : World, V = w.alloc (.cells (arL 16 f).toArray 22) := ⟨_, rfl⟩
  have hs1 : w1.heap.size = w.heap.size + 1 := by rw [hw1]; simp
  have hBw1 : Below w.heap.size w w1 := by rw [hw1]; exact (Below.refl _ _).alloc (Nat.le_refl _) _
  have hfw1 : Ar w1 w.heap.size 16 f := by rw [hw1]; exact Ar.new w 16 f _
  obtain ⟨w2, hw2⟩ : ∃ V : World, V = w1.alloc (.cells (arL 16 b).toArray 22) := ⟨_, rfl⟩
  have hs2 : w2.heap.size = w.heap.size + 2 := by rw [hw2]; simp [hs1]
  have hBw2 : Below w.heap.size w w2 := by rw [hw2]; exact hBw1.alloc (by omega) _
  have hfw2 := hfw1.alloc (by omega) (.cells (arL 16 b).toArray 22)
  rw [← hw2] at hfw2
  have hbw2 : Ar w2 (w.heap.size + 1) 16 b := by rw [hw2, ← hs1]; exact Ar.new w1 16 b _
  rw [hkf] at hw1
  rw [hkb] at hw2
  rw [hkf, hkb]
  clear hkf hkb hs hf hb
  go_enter Tryd.func7, Tryd.ntmps7
  go_upto_region 1 with fail
  rw [← hw1, ← hw2]
  clear hw1 hw2
  try simp only [Nat.add_assoc, Nat.reduceAdd]
  obtain ⟨gf, hgf⟩ : ∃ g : Nat, w.heap.size = g := ⟨_, rfl⟩
  obtain ⟨gb, hgb⟩ : ∃ g : Nat, w.heap.size + 1 = g := ⟨_, rfl⟩
  rw [hgf] at hfw2
  rw [hgb] at hbw2
  try rw [hgb]
  try simp only [hgf]
  have hlf : w.heap.size ≤ gf := by omega
  have hlb : w.heap.size ≤ gb := by omega
  have hltb : gf < gb := by omega
  clear hgb hs1 hs2
  go_wp2_with fail
  refine (fawake _ (HX.out.keep hBw2)).mono ?_
  rintro e x1 ⟨rfl, hq⟩
  have hfx1 := (hfw2).to (by omega) hq
  have hbx1 := (hbw2).to (by omega) hq
  have hBx1 := hBw2.trans (hq.mono hBw2.size)
  clear hq hfw2 hbw2 hBw2
  have hit := Lib.hid (itE_lt Hf.out Hb.out)
  go_wp2_with (refine wpList_load_ar rfl _ _ rfl _ _ _ rfl hfx1 Tryd.arr16b (size16b _) ?_)
  refine (fnew f _ Hf.out (HX.out.keep hBx1)).mono ?_
  rintro e x2 ⟨gC, rfl, hgC, hCx2, hq⟩
  have hfx2 := (hfx1).to (by omega) hq
  have hbx2 := (hbx1).to (by omega) hq
  have hBx2 := hBx1.trans (hq.mono hBx1.size)
  clear hq hfx1 hbx1 hBx1
  go_wp2_with (refine wpList_load_ar rfl _ _ rfl _ _ _ rfl hfx2 Tryd.arr16b (size16b _) ?_)
  refine (refprepare f _ Hf.out).mono ?_
  rintro e x3 ⟨rfl, hq⟩
  have hfx3 := (hfx2).to (by omega) hq
  have hbx3 := (hbx2).to (by omega) hq
  have hCx3 := (hCx2).to hq
  have hBx3 := hBx2.trans (hq.mono hBx2.size)
  clear hq hfx2 hbx2 hCx2 hBx2
  obtain ⟨gkk, hgkk⟩ : ∃ g : Nat, x3.heap.size = g := ⟨_, rfl⟩
  have hlgfgkk : gf < gkk := by rw [← hgkk]; exact hfx3.lt (by omega)
  have hlgbgkk : gb < gkk := by rw [← hgkk]; exact hbx3.lt (by omega)
  have hlgCgkk : gC < gkk := by rw [← hgkk]; exact hCx3.lt
  have hlwgkk : w.heap.size ≤ gkk := by rw [← hgkk]; exact hBx3.size
  have hq : Below x3.heap.size x3 (x3.alloc (.cells (arL 432 fun _ => 0).toArray 32)) := (Below.refl _ _).alloc (Nat.le_refl _) _
  have hfx4a := (hfx3).to (by omega) hq
  have hbx4a := (hbx3).to (by omega) hq
  have hCx4a := (hCx3).to hq
  have hkkx4a := Ar.new x3 432 (fun _ => 0) 32
  have hBx4a := hBx3.alloc hBx3.size (.cells (arL 432 fun _ => 0).toArray 32)
  rw [hgkk] at hkkx4a
  clear hq hfx3 hbx3 hCx3 hBx3
  go_upto_region 5 with (first | (refine wpList_store_ar rfl _ _ _ rfl _ _ _ (pkF (ek f) sb) rfl rfl hkkx4a (sizeK _) ?_; intro x4 hkkx4 belx4 sizx4 keex4) | fail)
  have hfx4 := (hfx4a).keep hlgfgkk belx4
  have hbx4 := (hbx4a).keep hlgbgkk belx4
  have hCx4 := (hCx4a).keep hlgCgkk belx4
  have hBx4 := hBx4a.trans (belx4.mono hlwgkk)
  clear hfx4a hbx4a hCx4a hkkx4a hBx4a belx4 sizx4 keex4 hgkk
  try dsimp only [Act.put]
  obtain ⟨gx, hgx⟩ : ∃ g : Nat, x4.heap.size = g := ⟨_, rfl⟩
  have hlgfgx : gf < gx := by rw [← hgx]; exact hfx4.lt (by omega)
  have hlgbgx : gb < gx := by rw [← hgx]; exact hbx4.lt (by omega)
  have hlgCgx : gC < gx := by rw [← hgx]; exact hCx4.lt
  have hlgkkgx : gkk < gx := by rw [← hgx]; exact hkkx4.lt (by omega)
  have hlwgx : w.heap.size ≤ gx := by rw [← hgx]; exact hBx4.size
  have hq : Below x4.heap.size x4 (x4.alloc (.cells (arL 16 fun _ => 0).toArray 22)) := (Below.refl _ _).alloc (Nat.le_refl _) _
  have hfx5a := (hfx4).to (by omega) hq
  have hbx5a := (hbx4).to (by omega) hq
  have hCx5a := (hCx4).to hq
  have hkkx5a := (hkkx4).to (by omega) hq
  have hxx5a := Ar.new x4 16 (fun _ => 0) 22
  have hBx5a := hBx4.alloc hBx4.size (.cells (arL 16 fun _ => 0).toArray 22)
  rw [hgx] at hxx5a
  clear hq hfx4 hCx4 hkkx4 hBx4
  go_upto_region 6 with (first | (refine wpList_load_ar rfl _ _ rfl _ _ _ rfl hbx4 Tryd.arr16b (size16b _) ?_) | (refine wpList_store_ar rfl _ _ _ rfl _ _ _ (b) rfl rfl hxx5a (size16b _) ?_; intro x5 hxx5 belx5 sizx5 keex5) | fail)
  have hfx5 := (hfx5a).keep hlgfgx belx5
  have hbx5 := (hbx5a).keep hlgbgx belx5
  have hCx5 := (hCx5a).keep hlgCgx belx5
  have hkkx5 := (hkkx5a).keep hlgkkgx belx5
  have hBx5 := hBx5a.trans (belx5.mono hlwgx)
  clear hfx5a hbx5a hCx5a hkkx5a hxx5a hBx5a belx5 sizx5 keex5 hgx hbx4
  try dsimp only [Act.put]
  obtain ⟨gy, hgy⟩ : ∃ g : Nat, x5.heap.size = g := ⟨_, rfl⟩
  have hlgfgy : gf < gy := by rw [← hgy]; exact hfx5.lt (by omega)
  have hlgbgy : gb < gy := by rw [← hgy]; exact hbx5.lt (by omega)
  have hlgCgy : gC < gy := by rw [← hgy]; exact hCx5.lt
  have hlgkkgy : gkk < gy := by rw [← hgy]; exact hkkx5.lt (by omega)
  have hlgxgy : gx < gy := by rw [← hgy]; exact hxx5.lt (by omega)
  have hlwgy : w.heap.size ≤ gy := by rw [← hgy]; exact hBx5.size
  have hq : Below x5.heap.size x5 (x5.alloc (.cells (arL 16 fun _ => 0).toArray 22)) := (Below.refl _ _).alloc (Nat.le_refl _) _
  have hfx6a := (hfx5).to (by omega) hq
  have hbx6a := (hbx5).to (by omega) hq
  have hCx6a := (hCx5).to hq
  have hkkx6a := (hkkx5).to (by omega) hq
  have hxx6a := (hxx5).to (by omega) hq
  have hyx6a := Ar.new x5 16 (fun _ => 0) 22
  have hBx6a := hBx5.alloc hBx5.size (.cells (arL 16 fun _ => 0).toArray 22)
  rw [hgy] at hyx6a
  clear hq hfx5 hCx5 hkkx5 hxx5 hBx5
  go_upto_region 7 with (first | (refine wpList_load_ar rfl _ _ rfl _ _ _ rfl hbx5 Tryd.arr16b (size16b _) ?_) | (refine wpList_store_ar rfl _ _ _ rfl _ _ _ (b) rfl rfl hyx6a (size16b _) ?_; intro x6 hyx6 belx6 sizx6 keex6) | fail)
  have hfx6 := (hfx6a).keep hlgfgy belx6
  have hbx6 := (hbx6a).keep hlgbgy belx6
  have hCx6 := (hCx6a).keep hlgCgy belx6
  have hkkx6 := (hkkx6a).keep hlgkkgy belx6
  have hxx6 := (hxx6a).keep hlgxgy belx6
  have hBx6 := hBx6a.trans (belx6.mono hlwgy)
  clear hfx6a hbx6a hCx6a hkkx6a hxx6a hyx6a hBx6a belx6 sizx6 keex6 hgy hbx5
  try dsimp only [Act.put]
  obtain ⟨dK, hfs, hrow⟩ := Tryd.structK
  have HS := Lib.hid hfs
  have HW := Lib.hid hrow
  clear hfs hrow
  have heq := fun X => eq16_true (f := X) (g := X) (fun _ _ => rfl)
  have hgd := Tryd.eqg16
  go_wp2_with fail
  go_loopw [11] (fun i wr => ∃ r : Nat, r ≤ m ∧ i = .int .i64 r ∧ Ar wr gb 16 (b) ∧ Ci wr gC (f) ∧ Ar wr gkk 432 (pkF (ek f) sb) ∧ Ar wr gx 16 (itE f b r) ∧ Ar wr gy 16 (itE f b r) ∧ Below w.heap.size w wr) (fun i _ => m - (intOf i).toNat)
  case atStart => exact ⟨0, Nat.zero_le _, rfl, hbx6, hCx6, hkkx6, hxx6, hyx6, hBx6⟩
  case round =>
    clear hfx6 hbx6 hCx6 hkkx6 hxx6 hyx6 hBx6
    obtain ⟨r, hr, rfl, hb0, hC0, hkk0, hx0, hy0, hB0⟩ := hrel
    by_cases hlt : r < m
    · have i1 : (r : Int) < (m : Int) := by omega
      go_wp2_with (refine wpList_load_ar rfl _ _ rfl _ _ _ rfl hx0 Tryd.arr16b (size16b _) ?_)
      refine (fencrypt _ f (itE f b r) _ Hf.out (hit.out r) (exp_made gC f _ hC0) (HX.out.keep hB0)).mono ?_
      rintro e x7 ⟨rfl, hq⟩
      have hbx7 := (hb0).to (by omega) hq
      have hCx7 := (hC0).to hq
      have hkkx7 := (hkk0).to (by omega) hq
      have hxx7 := (hx0).to (by omega) hq
      have hyx7 := (hy0).to (by omega) hq
      have hBx7 := hB0.trans (hq.mono hB0.size)
      clear hq hb0 hC0 hkk0 hx0 hy0 hB0
      rw [show enF f (itE f b r) = itE f b (r + 1) from rfl]
      go_upto_region 11 with (first | (refine wpList_store_ar rfl _ _ _ rfl _ _ _ (itE f b (r + 1)) rfl rfl hxx7 (size16b _) ?_; intro x8 hxx8 belx8 sizx8 keex8) | fail)
      have hbx8 := (hbx7).keep (by omega) belx8
      have hCx8 := (hCx7).keep (by omega) belx8
      have hkkx8 := (hkkx7).keep (by omega) belx8
      have hyx8 := keex8 _ _ _ (by omega) hyx7
      have hBx8 := hBx7.trans (belx8.mono (by omega))
      clear hbx7 hCx7 hkkx7 hxx7 hyx7 hBx7 belx8 sizx8 keex8
      try dsimp only [Act.put]
      go_wp2_with (first | (refine wpList_load_mid rfl _ _ rfl gkk 0 rfl (arL 432 (pkF (ek f) sb)) _ hkkx8.range HS.out HW.out (sizeK _) ?_) | (refine wpList_load_ar rfl _ _ rfl _ _ _ rfl hyx8 Tryd.arr16b (size16b _) ?_))
      refine (refencrypt f (itE f b r) _ Hf.out (hit.out r)).mono ?_
      rintro e x9 ⟨rfl, hq⟩
      have hbx9 := (hbx8).to (by omega) hq
      have hCx9 := (hCx8).to hq
      have hkkx9 := (hkkx8).to (by omega) hq
      have hxx9 := (hxx8).to (by omega) hq
      have hyx9 := (hyx8).to (by omega) hq
      have hBx9 := hBx8.trans (hq.mono hBx8.size)
      clear hq hbx8 hCx8 hkkx8 hxx8 hyx8 hBx8
      rw [show enF f (itE f b r) = itE f b (r + 1) from rfl]
      go_wp2_with (first | (refine wpList_store_ar rfl _ _ _ rfl _ _ _ (itE f b (r + 1)) rfl rfl hyx9 (size16b _) ?_; intro x10 hyx10 belx10 sizx10 keex10) | fail)
      have hbx10 := (hbx9).keep (by omega) belx10
      have hCx10 := (hCx9).keep (by omega) belx10
      have hkkx10 := (hkkx9).keep (by omega) belx10
      have hxx10 := (hxx9).keep (by omega) belx10
      have hBx10 := hBx9.trans (belx10.mono (by omega))
      clear hbx9 hCx9 hkkx9 hxx9 hyx9 hBx9 belx10 sizx10 keex10
      go_wp2_with fail
      go_roundw
      case rel => exact ⟨r + 1, by omega, by go_num, hbx10, hCx10, hkkx10, hxx10, hyx10, hBx10⟩
      case measure => simp [intOf]; omega
    · obtain rfl : r = m := by omega
      obtain ⟨wo, rfl⟩ : ∃ wo, wo = wr := ⟨_, rfl⟩
      go_wp2_with (first | (refine wpList_load_ar rfl _ _ rfl _ _ _ rfl hx0 Tryd.arr16b (size16b _) ?_) | (refine wpList_load_ar rfl _ _ rfl _ _ _ rfl hy0 Tryd.arr16b (size16b _) ?_))
      go_loopw [12] (fun i wv => ∃ q : Nat, q ≤ r ∧ i = .int .i64 q ∧ Ar wv gb 16 (b) ∧ Ci wv gC (f) ∧ Ar wv gx 16 (itE f b (r - q)) ∧ Below w.heap.size w wv) (fun i _ => r - (intOf i).toNat)
      case atStart => exact ⟨0, Nat.zero_le _, rfl, hb0, hC0, hx0, hB0⟩
      case round =>
        clear hb0 hC0 hkk0 hx0 hy0 hB0
        obtain ⟨q, hq, rfl, hb0, hC0, hx0, hB0⟩ := hrel
        by_cases hlt2 : q < r
        · have i1 : (q : Int) < (r : Int) := by omega
          obtain ⟨p, hp⟩ : ∃ p, r - q = p + 1 := ⟨r - q - 1, by omega⟩
          have hp2 : r - (q + 1) = p := by omega
          rw [hp, show itE f b (p + 1) = enF f (itE f b p) from rfl] at hx0
          go_wp2_with (refine wpList_load_ar rfl _ _ rfl _ _ _ rfl hx0 Tryd.arr16b (size16b _) ?_)
          refine (fdecEnc _ f (itE f b p) _ Hf.out (hit.out p) (exp_made gC f _ hC0) (HX.out.keep hB0)).mono ?_
          rintro e x11 ⟨rfl, hq⟩
          have hbx11 := (hb0).to (by omega) hq
          have hCx11 := (hC0).to hq
          have hxx11 := (hx0).to (by omega) hq
          have hBx11 := hB0.trans (hq.mono hB0.size)
          clear hq hb0 hC0 hx0 hB0
          go_wp2_with (first | (refine wpList_store_ar rfl _ _ _ rfl _ _ _ (itE f b p) rfl rfl hxx11 (size16b _) ?_; intro x12 hxx12 belx12 sizx12 keex12) | fail)
          have hbx12 := (hbx11).keep (by omega) belx12
          have hCx12 := (hCx11).keep (by omega) belx12
          have hBx12 := hBx11.trans (belx12.mono (by omega))
          clear hbx11 hCx11 hxx11 hBx11 belx12 sizx12 keex12
          go_wp2_with fail
          go_roundw
          case rel => exact ⟨q + 1, by omega, by go_num, hbx12, hCx12, by rw [hp2]; exact hxx12, hBx12⟩
          case measure => simp [intOf]; omega
        · obtain rfl : q = r := by omega
          rw [Nat.sub_self, show itE f b 0 = b from rfl] at hx0
          go_wp2_with (first | (refine wpList_load_ar rfl _ _ rfl _ _ _ rfl hx0 Tryd.arr16b (size16b _) ?_) | (refine wpList_load_ar rfl _ _ rfl _ _ _ rfl hb0 Tryd.arr16b (size16b _) ?_))
          go_ret
          exact ⟨rfl, hB0⟩
end Go.Proofs.YtejgeefhnpeejaaDoor
