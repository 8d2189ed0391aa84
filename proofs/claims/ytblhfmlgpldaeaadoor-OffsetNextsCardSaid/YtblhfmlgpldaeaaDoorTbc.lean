/-
  Contracts of the methods of table.Table, by walks through their texts: for a Table that New has made, and for nil; what was there stays as it was.
-/
import Derived.Test.YtblhfmlgpldaeaaDoorTbb
import Derived.Test.YtblhfmlgpldaeaaDoorBitr
import Derived.Test.YtblhfmlgpldaeaaDoorEqs
namespace Go.Proofs.YtblhfmlgpldaeaaDoor
open Go.RowKit
set_option linter.unusedVariables false
set_option maxRecDepth 100000

/-- A value that stands for a Table of the Cipher p with the star block s, in whatever later world. -/
def TabV (w : World) (v : Value) (p : Option Addr) (s : Nat → Nat) : Prop := ∀ V, Below w.heap.size w V → Calls Tryd.prog 45 #[v] V fun e V' => ∃ g, e = .returned (.pointer (some ⟨g, 0, none⟩)) ∧ Ti V' g p s ∧ Below V.heap.size V V'
theorem TabV.to {w w' : World} {v : Value} {p : Option Addr} {s : Nat → Nat} (h : TabV w v p s) (hb : Below w.heap.size w w') : TabV w' v p s := fun V hV => h V (hb.trans (hV.mono hb.size))
theorem tab_made (g : Nat) (p : Option Addr) (s : Nat → Nat) (w : World) (h : Ti w g p s) : TabV w (.pointer (some ⟨g, 0, none⟩)) p s := by
  intro V hV
  have hT := h.to hV
  clear h hV
  go_enter Tryd.func45, Tryd.ntmps45
  go_wp2_with fail
  go_ret
  exact ⟨g, rfl, hT, Below.refl _ _⟩
theorem tab_nil (w : World) (h : Boxes w) : TabV w (.pointer none) none (enF zF zF) := by
  intro V hV
  have hX := h.keep hV
  have hn := Lib.hid (tnew none zF V zF_lt (exp_nil V hX) hX)
  clear h hV hX
  go_enter Tryd.func45, Tryd.ntmps45
  go_wp2_with fail
  refine hn.out.mono ?_
  rintro e w1 ⟨g, rfl, hg, hT, hb⟩
  go_wp2_with fail
  go_ret
  exact ⟨g, rfl, hT, hb⟩

theorem tcip (g : Nat) (p : Option Addr) (s : Nat → Nat) (w : World) (h : Ti w g p s) :
    Calls Tryd.prog 34 #[.pointer (some ⟨g, 0, none⟩)] w fun e w' => e = .returned (.pointer p) ∧ Below w.heap.size w w' := by
  have c0 := tx_cip h
  clear h
  go_enter Tryd.func34, Tryd.ntmps34
  go_wp2_with fail
  go_ret
  exact ⟨rfl, Below.refl _ _⟩
theorem tcip_nil (w : World) :
    Calls Tryd.prog 34 #[.pointer none] w fun e w' => e = .returned (.pointer none) ∧ Below w.heap.size w w' := by
  go_enter Tryd.func34, Tryd.ntmps34
  go_wp2_with fail
  go_ret
  exact ⟨rfl, Below.refl _ _⟩
/-- What At returns. -/
def atI (s : Nat → Nat) (i : Int) : Nat → Nat := if 0 ≤ i ∧ i < 64 then dk s (i.toNat + 2) else fun _ => 0
set_option maxHeartbeats 800000 in
theorem tat_out (v : Value) (s : Nat → Nat) (i : Int) (w : World) (hi : i < 0 ∨ 64 ≤ i) :
    Calls Tryd.prog 27 #[v, .int .i64 i] w fun e w' => e = .returned (.agg (arL 16 (fun _ => 0)).toArray) ∧ Below w.heap.size w w' := by
  have hz := zero16b
  have z0 := Lib.hid run_zero16
  obtain ⟨w1, hw1⟩ : ∃ w1 : World, w1 = w.alloc (.cells (arL 16 fun _ => 0).toArray 22) := ⟨_, rfl⟩
  have hb1 : Below w.heap.size w w1 := by rw [hw1]; exact (Below.refl _ _).alloc (Nat.le_refl _) _
  have hR1 : Ar w1 w.heap.size 16 (fun _ => 0) := by rw [hw1]; exact Ar.new w 16 _ _
  go_enter Tryd.func27, Tryd.ntmps27
  go_upto_region 1 with fail
  rw [← hw1]
  clear hw1
  rcases hi with h0 | h1
  · go_wp2_with (first
      | (refine wpList_build_by rfl _ _ rfl [] rfl _ (z0.out _) ?_)
      | (refine wpList_store_ar rfl _ _ _ rfl _ _ _ (fun _ => 0) rfl rfl hR1 (size16b _) ?_; intro w8 hA8 hb8 _ _))
    refine bodyPost_ret_ar rfl rfl hA8 Tryd.arr16b (size16b _) rfl ⟨rfl, ?_⟩
    exact hb1.trans hb8
  · have h0 : ¬ i < 0 := by omega
    go_wp2_with (first
      | (refine wpList_build_by rfl _ _ rfl [] rfl _ (z0.out _) ?_)
      | (refine wpList_store_ar rfl _ _ _ rfl _ _ _ (fun _ => 0) rfl rfl hR1 (size16b _) ?_; intro w8 hA8 hb8 _ _))
    refine bodyPost_ret_ar rfl rfl hA8 Tryd.arr16b (size16b _) rfl ⟨rfl, ?_⟩
    exact hb1.trans hb8
set_option maxHeartbeats 800000 in
theorem tat_in (v : Value) (p : Option Addr) (s : Nat → Nat) (k : Nat) (w : World) (hk : k < 64) (hv : TabV w v p s) :
    Calls Tryd.prog 27 #[v, .int .i64 k] w fun e w' => e = .returned (.agg (arL 16 (dk s (k + 2))).toArray) ∧ Below w.heap.size w w' := by
  have hz := zero16b
  obtain ⟨w1, hw1⟩ : ∃ w1 : World, w1 = w.alloc (.cells (arL 16 fun _ => 0).toArray 22) := ⟨_, rfl⟩
  have hb1 : Below w.heap.size w w1 := by rw [hw1]; exact (Below.refl _ _).alloc (Nat.le_refl _) _
  have hR1 : Ar w1 w.heap.size 16 (fun _ => 0) := by rw [hw1]; exact Ar.new w 16 _ _
  have hcall := Lib.hid (hv w1 hb1)
  clear hv
  have i0 : ¬ (k : Int) < 0 := by omega
  have i1 : (k : Int) < 64 := by omega
  go_enter Tryd.func27, Tryd.ntmps27
  go_upto_region 1 with fail
  rw [← hw1]
  clear hw1
  go_wp2_with fail
  refine hcall.out.mono ?_
  rintro e w2 ⟨g, rfl, hT, hq⟩
  have hR2 := hR1.to (by omega) hq
  have hB2 := hb1.trans (hq.mono hb1.size)
  have hrg := hT.block k hk
  clear hR1 hb1 hq hcall hT
  go_wp2_with (first
    | (refine wpList_load_mid rfl _ _ rfl g (33 + k * 16) rfl (arL 16 (dk s (k + 2))) _ hrg Tryd.arr16b rfl (size16b _) ?_)
    | (refine wpList_store_ar rfl _ _ _ rfl _ _ _ (dk s (k + 2)) rfl rfl hR2 (size16b _) ?_; intro w8 hA8 hb8 _ _))
  refine bodyPost_ret_ar rfl rfl hA8 Tryd.arr16b (size16b _) rfl ⟨rfl, ?_⟩
  exact hB2.trans hb8
theorem tat (v : Value) (p : Option Addr) (s : Nat → Nat) (i : Int) (w : World) (hv : TabV w v p s) :
    Calls Tryd.prog 27 #[v, .int .i64 i] w fun e w' => e = .returned (.agg (arL 16 (atI s i)).toArray) ∧ Below w.heap.size w w' := by
  unfold atI
  by_cases h : 0 ≤ i ∧ i < 64
  · rw [if_pos h]
    obtain ⟨k, rfl⟩ := Int.eq_ofNat_of_zero_le h.1
    exact tat_in v p s k w (by omega) hv
  · rw [if_neg h]
    exact tat_out v s i w (by omega)
set_option maxHeartbeats 800000 in
theorem tfor (v : Value) (p : Option Addr) (s : Nat → Nat) (n : Nat) (w : World) (hn : n < 18446744073709551616) (hv : TabV w v p s) :
    Calls Tryd.prog 40 #[v, .int .u64 n] w fun e w' => e = .returned (.agg (arL 16 (atI s (zer n : Nat))).toArray) ∧ Below w.heap.size w w' := by
  have hzr := Lib.hid (fun V => zeros n V hn)
  obtain ⟨i, hi⟩ : ∃ i : Nat, zer n = i := ⟨_, rfl⟩
  rw [hi] at hzr
  rw [hi]
  have hz := zero16b
  obtain ⟨w1, hw1⟩ : ∃ w1 : World, w1 = w.alloc (.cells (arL 16 fun _ => 0).toArray 22) := ⟨_, rfl⟩
  have hb1 : Below w.heap.size w w1 := by rw [hw1]; exact (Below.refl _ _).alloc (Nat.le_refl _) _
  have hR1 : Ar w1 w.heap.size 16 (fun _ => 0) := by rw [hw1]; exact Ar.new w 16 _ _
  have hcall := Lib.hid (tat v p s (i : Nat) w1 (hv.to hb1))
  clear hv
  go_enter Tryd.func40, Tryd.ntmps40
  go_upto_region 1 with fail
  rw [← hw1]
  clear hw1
  go_wp2_with fail
  refine (hzr.out _).mono ?_
  rintro e w2 ⟨rfl, rfl⟩
  clear hzr
  go_wp2_with fail
  refine hcall.out.mono ?_
  rintro e w3 ⟨rfl, hq⟩
  have hR2 := hR1.to (by omega) hq
  have hB2 := hb1.trans (hq.mono hb1.size)
  clear hR1 hb1 hq hcall
  go_wp2_with (refine wpList_store_ar rfl _ _ _ rfl _ _ _ (atI s (i : Nat)) rfl rfl hR2 (size16b _) ?_; intro w8 hA8 hb8 _ _)
  refine bodyPost_ret_ar rfl rfl hA8 Tryd.arr16b (size16b _) rfl ⟨rfl, ?_⟩
  exact hB2.trans hb8
end Go.Proofs.YtblhfmlgpldaeaaDoor
