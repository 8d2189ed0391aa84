/-
  Contract of Shift in the reference package of layer 8, by a walk through its text; what was there stays as it was.
-/
import Derived.Test.YtblhfmlgpldaeaaDoorBrc
namespace Go.Proofs.YtblhfmlgpldaeaaDoor
open Go.RowKit
set_option linter.unusedVariables false
set_option maxRecDepth 100000

theorem Tryd.arr24 : Tryd.prog.underlying 38 = some (.array 24 5) := by kernel_rfl

set_option maxHeartbeats 1600000 in
theorem refshift8 (f : Nat → Nat) (n : Nat) (w : World) (hf : ∀ j, j < 24 → f j < 256) (hn : n ≤ 64) :
    Calls Tryd.prog 23 #[.agg (arL 24 f).toArray, .int .i64 (n : Int)] w fun e w' => e = .returned (.agg (arL 16 (shB (cut 24 f) n)).toArray) ∧ Below w.heap.size w w' := by
  have hz := zero16x
  obtain ⟨kA, hkA⟩ : ∃ kA : Array Value, (arL 24 f).toArray = kA := ⟨_, rfl⟩
  obtain ⟨w1, hw1⟩ : ∃ w1 : World, w1 = w.alloc (.cells (arL 24 f).toArray 38) := ⟨_, rfl⟩
  have hs1 : w1.heap.size = w.heap.size + 1 := by rw [hw1]; simp
  have hb1 : Below w.heap.size w w1 := by rw [hw1]; exact (Below.refl _ _).alloc (Nat.le_refl _) _
  have hK1 : Ar w1 w.heap.size 24 f := by rw [hw1]; exact Ar.new w 24 f _
  obtain ⟨w2, hw2⟩ : ∃ w2 : World, w2 = w1.alloc (.cells (arL 16 fun _ => 0).toArray 22) := ⟨_, rfl⟩
  have hb2 : Below w.heap.size w w2 := by rw [hw2]; exact hb1.alloc (by omega) _
  have hR2 : Ar w2 (w.heap.size + 1) 16 (fun _ => 0) := by rw [hw2, ← hs1]; exact Ar.new w1 16 _ _
  have hK2 : Ar w2 w.heap.size 24 f := by rw [hw2]; exact hK1.alloc (by omega) _
  rw [hkA] at hw1
  rw [hkA]
  clear hb1 hK1 hkA
  have HF := Lib.hid hf
  clear hf
  have i1 : (0 : Int) ≤ (n : Int) := by omega
  have i2 : (n : Int) ≤ 64 := by omega
  go_enter Tryd.func23, Tryd.ntmps23
  go_upto_region 1 with fail
  rw [← hw1, ← hw2]
  clear hw1 hw2 hs1
  go_wp2_with fail
  refine (refbits f 24 w.heap.size w2 (by omega) HF.out hK2 (hK2.lt (by omega))).mono ?_
  rintro e w3 ⟨A, c, rfl, hO, hq⟩
  have hR3 := hR2.to (by omega) hq
  have hB3 := hb2.trans (hq.mono hb2.size)
  clear hR2 hb2 hq
  obtain ⟨g, rfl, hgb, hgl, _⟩ := hO.cell 0 (by omega)
  have hcap := (own_cap hO).1
  have HC := Lib.hid (fun k (hk : k < 192) => (hO.cell k hk))
  have i3 : (192 : Int) ≤ (c : Int) := by omega
  clear hO hK2
  go_wp2_with fail
  have hcell : ∀ k, k < 128 → w3.cell? ⟨g, n + k, none⟩ = some (.int .i64 (bitF f (k + n) : Nat)) := fun k hk => by
    obtain ⟨g2, e, _, _, hc⟩ := HC.out (n + k) (by omega)
    injection e with e
    injection e with e
    subst e
    rw [hc, Nat.add_comm n k]
  refine (refofb (fun k => bitF f (k + n)) g n 128 (c - n) w3 (by omega) (fun k _ => bitF_lt _ _) hcell hgl).mono ?_
  rintro e w4 ⟨rfl, hq⟩
  rw [arL_ext (n := 16) (f := by8 fun k => bitF f (k + n)) (g := shB (cut 24 f) n) (fun j hj => by
    rw [← by8_shift (cut 24 f) (cut_lt HF.out) n j]
    refine by8_congr j (fun i hi => ?_)
    unfold bitF cut
    rw [if_pos (by omega)])]
  have hR4 := hR3.to (by omega) hq
  have hB4 := hB3.trans (hq.mono hB3.size)
  clear hR3 hB3 hq hcell HC
  go_wp2_with (refine wpList_store_ar rfl _ _ _ rfl _ _ _ (shB (cut 24 f) n) rfl rfl hR4 (size16x _) ?_; intro w8 hA8 hb8 _ _)
  refine bodyPost_ret_ar rfl rfl hA8 Tryd.arr16x (size16x _) rfl ⟨rfl, ?_⟩
  exact hB4.trans (hb8.mono (by omega))
end Go.Proofs.YtblhfmlgpldaeaaDoor
