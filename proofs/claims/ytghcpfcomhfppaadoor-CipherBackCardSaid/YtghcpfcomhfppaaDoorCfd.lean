/-
  Contract of the function in blend of package cipher, by a walk through its text; what was there stays as it was.
-/
import Derived.Test.YtghcpfcomhfppaaDoorCfa
import Derived.Test.YtghcpfcomhfppaaDoorFid
import Derived.BigRegion
import Derived.Deep.RegionHeld3
namespace Go.Proofs.YtghcpfcomhfppaaDoor
open Go.RowKit
set_option linter.unusedVariables false
set_option maxRecDepth 100000

/-- What the walk asks of the top of a column, and of the places below a byte. -/
theorem colt (n t q : Nat) (hn : n < 16) (hq : q = n % 4) (ht : t = n / 4 * 4) :
    (((n : Int)).tmod 4 = (q : Int) ∧ (n : Int) % 4 = (q : Int)) ∧ (wrap64 ((n : Int) - (q : Int)) = (t : Int) ∧ IntKind.i64.wrap ((n : Int) - (q : Int)) = (t : Int)) ∧ (n : Int) - (q : Int) = (t : Int) := by
  refine ⟨⟨?_, by omega⟩, ⟨?_, ?_⟩, by omega⟩
  · rw [Int.tmod_eq_emod_of_nonneg (by omega)]; omega
  · rw [IntWalk.wrap64_in _ (by omega)]; omega
  · rw [wraps_i64' _ (by omega) (by omega)]; omega
theorem colf (n t kn : Nat) (k : Int) (q : Nat) (hk : k = (kn : Int)) (hn : n < 16) (hkn : kn < 4) (ht : t = n / 4 * 4) (hq : q = (n + kn) % 4) :
    (IntKind.i64.wrap ((n : Int) + k) = (n : Int) + k ∧ wrap64 ((n : Int) + k) = (n : Int) + k) ∧ (((n : Int) + k).tmod 4 = (q : Int) ∧ ((n : Int) + k) % 4 = (q : Int)) ∧
    (IntKind.i64.wrap ((t : Int) + (q : Int)) = (t : Int) + (q : Int) ∧ wrap64 ((t : Int) + (q : Int)) = (t : Int) + (q : Int)) ∧ (t : Int) + (q : Int) < 16 := by
  subst hk
  refine ⟨⟨wraps_i64' _ (by omega) (by omega), IntWalk.wrap64_in _ (by omega)⟩, ⟨?_, by omega⟩, ⟨wraps_i64' _ (by omega) (by omega), IntWalk.wrap64_in _ (by omega)⟩, by omega⟩
  rw [Int.tmod_eq_emod_of_nonneg (by omega)]; omega

set_option maxHeartbeats 1600000 in
theorem cblend1 (a b c d n : Nat) (f : Nat → Nat) (g g2 : Nat) (w : World) (hn : n < 16) (ha : a < 256) (hb : b < 256) (hc : c < 256) (hd : d < 256) (hf : B16 f) (hA : Ar w g 16 f) (hC : C4 g2 a b c d w) :
    Calls Tryd.prog 43 #[.int .i64 (n : Int), .pointer (some ⟨g, 0, none⟩), .pointer (some ⟨g2, 0, none⟩)] w fun e w' => e = .returned (.int .u8 (mxF a b c d f n : Nat)) ∧ Below w.heap.size w w' := by
  obtain ⟨q, hq⟩ : ∃ q : Nat, q = n % 4 := ⟨_, rfl⟩
  obtain ⟨t, ht⟩ : ∃ t : Nat, t = n / 4 * 4 := ⟨_, rfl⟩
  obtain ⟨q1, hq1⟩ : ∃ q : Nat, q = (n + 1) % 4 := ⟨_, rfl⟩
  obtain ⟨q2, hq2⟩ : ∃ q : Nat, q = (n + 2) % 4 := ⟨_, rfl⟩
  obtain ⟨q3, hq3⟩ : ∃ q : Nat, q = (n + 3) % 4 := ⟨_, rfl⟩
  obtain ⟨c0, _⟩ := hA n hn
  obtain ⟨c1, _⟩ := hA (t + q1) (by omega)
  obtain ⟨c2, _⟩ := hA (t + q2) (by omega)
  obtain ⟨c3, _⟩ := hA (t + q3) (by omega)
  have l0 := hf n hn
  have l1 := hf (t + q1) (by omega)
  have l2 := hf (t + q2) (by omega)
  have l3 := hf (t + q3) (by omega)
  rw [show mxF a b c d f n = ((mul a (f n) ^^^ mul b (f (t + q1))) ^^^ mul c (f (t + q2))) ^^^ mul d (f (t + q3)) by rw [mxF, hq1, hq2, hq3, ht]]
  have i0 : (n : Int) < 16 := by omega
  have g1 : g < w.heap.size := blk_lt c0
  have g3 : g2 < w.heap.size := blk_lt hC.1
  obtain ⟨⟨A1, A2⟩, ⟨A3, A4⟩, A5⟩ := colt n t q hn hq ht
  have Hb := Lib.hid (colf n t 1 1 q1 rfl hn (by decide) ht hq1)
  have Hd := Lib.hid (colf n t 2 2 q2 rfl hn (by decide) ht hq2)
  have He := Lib.hid (colf n t 3 3 q3 rfl hn (by decide) ht hq3)
  obtain ⟨k0, k1, k2, k3⟩ := hC
  clear hA hf ht hq hq1 hq2 hq3
  generalize f n = x0 at *
  generalize f (t + q1) = x1 at *
  generalize f (t + q2) = x2 at *
  generalize f (t + q3) = x3 at *
  go_enter Tryd.func43, Tryd.ntmps43
  go_upto_region 2 with fail
  clear A1 A2 A3 A4 A5
  have b4 := Hb.out.2.1.2
  have b7 := Hb.out.2.2.2
  have d4 := Hd.out.2.1.2
  have d7 := Hd.out.2.2.2
  have e4 := He.out.2.1.2
  have e7 := He.out.2.2.2
  clear Hb Hd He
  refine wp_region_noPanic ?_
  go_big_region
  refine NoPanic.normal ?_
  clear b4 b7 d4 d7 e4 e7
  obtain ⟨w5, hw5⟩ : ∃ w5 : World, w5 = w.alloc (Obj.cells #[Value.int IntKind.u8 (x0 : Int), Value.int IntKind.u8 (x1 : Int), Value.int IntKind.u8 (x2 : Int), Value.int IntKind.u8 (x3 : Int)] 32) := ⟨_, rfl⟩
  have hb5 : Below w.heap.size w w5 := by rw [hw5]; exact (Below.refl _ _).alloc (Nat.le_refl _) _
  have m0 := (hb5.drew).cell (p := ⟨g2, 0, none⟩) g3 |>.trans k0
  have m1 := (hb5.drew).cell (p := ⟨g2, 1, none⟩) g3 |>.trans k1
  have m2 := (hb5.drew).cell (p := ⟨g2, 2, none⟩) g3 |>.trans k2
  have m3 := (hb5.drew).cell (p := ⟨g2, 3, none⟩) g3 |>.trans k3
  obtain ⟨p0, p1, p2, p3⟩ : C4 w.heap.size x0 x1 x2 x3 w5.drew := by rw [hw5]; exact ⟨by simp, by simp, by simp, by simp⟩
  rw [← hw5]
  have hb6 := hb5.drew
  generalize w5.drew = w6 at *
  clear hw5 hb5 k0 k1 k2 k3 c0 c1 c2 c3
  go_wp2_with fail
  refine (fdot a b c d x0 x1 x2 x3 _ ha hb hc hd l0 l1 l2 l3).mono ?_
  rintro e w7 ⟨rfl, hb7⟩
  go_wp2_with fail
  go_ret
  exact ⟨rfl, hb6.trans (hb7.mono hb6.size)⟩
end Go.Proofs.YtghcpfcomhfppaaDoor
