/-
  Contracts of block.Pad and block.Unpad, by walks through their texts; what was there stays as it was.
-/
import Derived.Test.YtejgeefhnpeejaaBkd
namespace Go.Proofs.Ytejgeefhnpeejaa
open Go.RowKit
set_option linter.unusedVariables false
set_option maxRecDepth 100000

theorem lF_pad (l : List UInt8) (n j : Nat) (hl : l.length = n) (hn : n < 16) (hj : j < 16) : lF (padL l 16) j = if j = n then 128 else if j < n then lF l j else 0 := by
  unfold lF padL
  simp only [List.getD]
  by_cases h : j < n
  · rw [if_neg (by omega), if_pos h, List.getElem?_append_left (by omega)]
  · rw [List.getElem?_append_right (by omega), hl]
    by_cases h2 : j = n
    · subst h2
      rw [if_pos rfl, Nat.sub_self]; rfl
    · rw [if_neg h2, if_neg h]
      obtain ⟨k, hk⟩ : ∃ k, j - n = k + 1 := ⟨j - n - 1, by omega⟩
      rw [hk, List.getElem?_cons_succ, List.getElem?_replicate, if_pos (by omega)]; rfl
/-- The bytes of a function as a list. -/
def liB (n : Nat) (f : Nat → Nat) : List UInt8 := (List.range n).map fun j => UInt8.ofNat (f j)
theorem liB_len (n : Nat) (f : Nat → Nat) : (liB n f).length = n := by simp [liB]
theorem liB_get (n : Nat) (f : Nat → Nat) (j : Nat) (hj : j < n) : (liB n f)[j]? = some (UInt8.ofNat (f j)) := by simp [liB, List.getElem?_map, List.getElem?_range hj]
theorem lF_liB (n : Nat) (f : Nat → Nat) (hf : ∀ j, j < n → f j < 256) (j : Nat) (hj : j < n) : lF (liB n f) j = f j := by
  unfold lF
  rw [List.getD, liB_get n f j hj]
  exact UInt8.toNat_ofNat_of_lt' (by simpa using hf j hj)
theorem Sl.of_fun {w : World} {B g o n : Nat} {f : Nat → Nat} (hf : ∀ j, j < n → f j < 256) (hc : ∀ j, j < n → w.cell? ⟨g, o + j, none⟩ = some (.int .u8 (f j : Nat))) (hg : g < B) : Sl w B (some ⟨g, o, none⟩) n (liB n f) :=
  ⟨liB_len n f, fun _ => ⟨g, o, rfl, hg, fun j u hu => by
    have hj : j < n := by have := (List.getElem?_eq_some_iff.1 hu).1; rwa [liB_len] at this
    rw [liB_get n f j hj] at hu
    obtain rfl := Option.some.inj hu
    rw [hc j hj, b8_ofNat _ (hf j hj)]⟩⟩

set_option maxHeartbeats 1600000 in
theorem bpad (A : Option Addr) (n c : Nat) (l : List UInt8) (w : World) (h : Sl w w.heap.size A n l) (hn : n < 16) :
    Calls Try.prog 20 #[.slice A n c] w fun e w' => e = .returned (.tuple #[.agg (arL 16 (lF (padL l 16))).toArray, .bool true]) ∧ Below w.heap.size w w' := by
  have hz := zero16x
  have hlen := h.len
  obtain ⟨w1, hw1⟩ : ∃ V : World, V = w.alloc (.cells (arL 16 fun _ => 0).toArray 22) := ⟨_, rfl⟩
  have hs1 : w1.heap.size = w.heap.size + 1 := by rw [hw1]; simp
  have hb1 : Below w.heap.size w w1 := by rw [hw1]; exact (Below.refl _ _).alloc (Nat.le_refl _) _
  have hR1 : Ar w1 w.heap.size 16 (fun _ => 0) := by rw [hw1]; exact Ar.new w 16 _ _
  obtain ⟨w2, hw2⟩ : ∃ V : World, V = w1.alloc (.cells (arL 16 fun _ => 0).toArray 22) := ⟨_, rfl⟩
  have hb2 : Below w.heap.size w w2 := by rw [hw2]; exact hb1.alloc (by omega) _
  have hW2 : Wb w2 (w.heap.size + 1) 16 (fun _ => 0) 22 := by rw [hw2, ← hs1]; exact Wb.new w1 16 _ _
  have hR2 : Ar w2 w.heap.size 16 (fun _ => 0) := by rw [hw2]; exact hR1.alloc (by omega) _
  have hS2 : Sl w2 w.heap.size A n l := h.below hb2
  clear hb1 hR1 h
  obtain ⟨g, hg⟩ : ∃ g : Nat, w.heap.size + 1 = g := ⟨_, rfl⟩
  have hsrc := Lib.hid (fun h0 => hS2.src h0)
  have hcs := map_lF l n hlen
  have HMi := Lib.hid (show (l.map b8).length = Nat.min n 16 by rw [List.length_map, hlen]; exact (Nat.min_eq_left (by omega)).symm)
  have HFi := Lib.hid (show 0 + (l.map b8).length ≤ (arL 16 fun _ => 0).length by rw [arL_len]; simp [hlen]; omega)
  have HLE := Lib.hid (show ∀ h : 0 < (l.map b8).length, 0 < n by intro h; simpa [hlen] using h)
  obtain ⟨cs, hcse⟩ : ∃ cs : List Value, l.map b8 = cs := ⟨_, rfl⟩
  have h1c := Lib.hid (one_b8 l)
  rw [hcse] at hsrc HMi HFi HLE hcs h1c
  have hspl := Lib.hid (show splice (arL 16 fun _ => 0) 0 cs = arL 16 (fun j => if j < n then lF l j else 0) by
    rw [hcs, splice_ar 16 n _ _ 0 (by omega)]
    exact arL_ext (fun j hj => by simp))
  have hcn : (cs.length : Int) = (n : Int) := by rw [HMi.out.trans (Nat.min_eq_left (by omega))]
  rw [hg] at hW2
  have HW := Lib.hid (show w2.heap[g]? = some (.cells (arL 16 fun _ => 0).toArray 22 (0, 0)) from hW2)
  have hlg : w.heap.size < g := by omega
  have i1 : ¬ (n : Int) ≥ 16 := by omega
  have i2 : (n : Int) < 16 := by omega
  clear hcs hcse hS2 hW2
  go_enter Try.func20, Try.ntmps20
  go_upto_region 2 with fail
  rw [← hw1, ← hw2]
  try rw [hg]
  clear hw1 hw2 hg hs1
  go_upto_region 5 with (refine wpList_copy_splice rfl (.tmp 9) (.tmp 10) 30 30 rfl 5 Try.sl8 Try.sz8 _ _ _ _ _ _ rfl rfl g 0 (arL 16 fun _ => 0) 22 HW.out cs HMi.out (fun h => ⟨rfl, hsrc.out (HLE.out h)⟩) HFi.out h1c.out g w2 (Below.refl _ _) (Nat.le_refl _) ?_; intro w3 hW3 hb3)
  have hT3 : Ar w3 g 16 (fun j => if j < n then lF l j else 0) := by
    have h := hW3.out
    rw [hspl.out] at h
    exact Wb.ar (show Wb w3 g 16 _ _ from h)
  have hR3 := hR2.keep hlg hb3
  have hB3 := hb2.trans (hb3.mono (by omega))
  clear hR2 hb2 hb3 hW3 HW hspl hsrc HMi HFi HLE h1c
  obtain ⟨c0, f0⟩ := hT3 n hn
  have hT4 := (hT3.set (j := n) (v := 128) hn rfl).ext (f' := lF (padL l 16)) (fun j hj => (lF_pad l n j hlen hn hj).symm)
  have hR4 := hR3.far (p := ⟨g, n, none⟩) (by simp; omega) (.int .u8 128)
  have hB4 := hB3.setCell (p := ⟨g, n, none⟩) (by simp; omega) (.int .u8 128)
  clear hT3 hR3 hB3
  try dsimp only [Act.put]
  go_upto_region 6 with fail
  generalize World.setCell w3 ⟨g, n, none⟩ (.int .u8 128) = w4 at *
  clear c0 f0
  go_wp2_with (first
    | (refine wpList_load_ar rfl _ _ rfl _ _ _ rfl hT4 Try.arr16x (size16x _) ?_)
    | (refine wpList_store_ar rfl _ _ _ rfl _ _ _ (lF (padL l 16)) rfl rfl hR4 (size16x _) ?_; intro w8 hA8 hb8 _ _))
  refine bodyPost_ret_ar2 rfl rfl rfl hA8 Try.arr16x (size16x _) rfl ⟨rfl, ?_⟩
  exact hB4.trans (hb8.mono (by omega))

set_option maxHeartbeats 1600000 in
theorem bpad_no (A : Option Addr) (n c : Nat) (w : World) (hn : 16 ≤ n) :
    Calls Try.prog 20 #[.slice A n c] w fun e w' => e = .returned (.tuple #[.agg (arL 16 fun _ => 0).toArray, .bool false]) ∧ Below w.heap.size w w' := by
  have hz := zero16x
  obtain ⟨w1, hw1⟩ : ∃ V : World, V = w.alloc (.cells (arL 16 fun _ => 0).toArray 22) := ⟨_, rfl⟩
  have hs1 : w1.heap.size = w.heap.size + 1 := by rw [hw1]; simp
  have hb1 : Below w.heap.size w w1 := by rw [hw1]; exact (Below.refl _ _).alloc (Nat.le_refl _) _
  have hR1 : Ar w1 w.heap.size 16 (fun _ => 0) := by rw [hw1]; exact Ar.new w 16 _ _
  obtain ⟨w2, hw2⟩ : ∃ V : World, V = w1.alloc (.cells (arL 16 fun _ => 0).toArray 22) := ⟨_, rfl⟩
  have hb2 : Below w.heap.size w w2 := by rw [hw2]; exact hb1.alloc (by omega) _
  have hT2 : Ar w2 (w.heap.size + 1) 16 (fun _ => 0) := by rw [hw2, ← hs1]; exact Ar.new w1 16 _ _
  have hR2 : Ar w2 w.heap.size 16 (fun _ => 0) := by rw [hw2]; exact hR1.alloc (by omega) _
  have i1 : (n : Int) ≥ 16 := by omega
  clear hb1 hR1
  go_enter Try.func20, Try.ntmps20
  go_upto_region 2 with fail
  rw [← hw1, ← hw2]
  clear hw1 hw2 hs1
  go_wp2_with (first
    | (refine wpList_load_ar rfl _ _ rfl _ _ _ rfl hT2 Try.arr16x (size16x _) ?_)
    | (refine wpList_store_ar rfl _ _ _ rfl _ _ _ (fun _ => 0) rfl rfl hR2 (size16x _) ?_; intro w8 hA8 hb8 _ _))
  refine bodyPost_ret_ar2 rfl rfl rfl hA8 Try.arr16x (size16x _) rfl ⟨rfl, ?_⟩
  exact hb2.trans (hb8.mono (by omega))

/-- What Unpad says of a block. -/
def Unp (w w' : World) (f : Nat → Nat) (e : Ending) : Prop :=
  (∃ n g, n < 16 ∧ f n = 128 ∧ (∀ j, n < j → j < 16 → f j = 0) ∧ e = .returned (.tuple #[.slice (some ⟨g, 0, none⟩) n n, .bool true]) ∧ Ar w' g n f ∧ w.heap.size ≤ g ∧ g < w'.heap.size ∧ Below w.heap.size w w') ∨
  ((∀ n, n < 16 → f n = 128 → ∃ j, n < j ∧ j < 16 ∧ f j ≠ 0) ∧ e = .returned (.tuple #[.slice none 0 0, .bool false]) ∧ Below w.heap.size w w')

set_option maxHeartbeats 1600000 in
theorem bunpad (f : Nat → Nat) (w : World) (hf : B16 f) :
    Calls Try.prog 21 #[.agg (arL 16 f).toArray] w fun e w' => Unp w w' f e := by
  obtain ⟨kA, hkA⟩ : ∃ kA : Array Value, (arL 16 f).toArray = kA := ⟨_, rfl⟩
  obtain ⟨w1, hw1⟩ : ∃ w1 : World, w1 = w.alloc (.cells (arL 16 f).toArray 22) := ⟨_, rfl⟩
  have hs1 : w1.heap.size = w.heap.size + 1 := by rw [hw1]; simp
  have hb1 : Below w.heap.size w w1 := by rw [hw1]; exact (Below.refl _ _).alloc (Nat.le_refl _) _
  have hK1 : Ar w1 w.heap.size 16 f := by rw [hw1]; exact Ar.new w 16 f _
  rw [hkA] at hw1
  rw [hkA]
  clear hkA
  have HF := Lib.hid hf
  clear hf
  go_enter Try.func21, Try.ntmps21
  go_upto_region 1 with fail
  rw [← hw1]
  clear hw1
  go_wp2_with fail
  go_loopw [4] (fun i wr => ∃ n : Nat, n ≤ 15 ∧ i = .int .i64 n ∧ (∀ j, n < j → j < 16 → f j = 0) ∧ wr = w1) (fun i _ => (intOf i).toNat)
  case atStart => exact ⟨15, Nat.le_refl _, rfl, fun j h1 h2 => by omega, rfl⟩
  case round =>
    obtain ⟨n, hn, rfl, hz0, rfl⟩ := hrel
    have hzz := Lib.hid hz0
    clear hz0
    obtain ⟨c0, _⟩ := hK1 n (by omega)
    have i2 : (n : Int) < 16 := by omega
    have x0 := HF.out n (by omega)
    by_cases hgo : 0 < n ∧ f n = 0
    · obtain ⟨h0, hfn⟩ := hgo
      rw [hfn] at c0
      have i1 : (0 : Int) < (n : Int) := by omega
      obtain ⟨q, hq⟩ : ∃ q : Nat, n = q + 1 := ⟨n - 1, by omega⟩
      have q1 : (n : Int) - 1 = (q : Int) := by omega
      have HQ := Lib.hid hq
      clear hq
      go_wp2_with fail
      go_roundw
      case rel => exact ⟨q, by have := HQ.out; omega, by first | rfl | go_num, fun j h1 h2 => by
        have := HQ.out
        by_cases e : j = n
        · rw [e]; exact hfn
        · exact hzz.out j (by omega) h2, trivial⟩
      case measure => have := HQ.out; simp [intOf]; omega
    · have hno := Lib.hid hgo
      clear hgo
      by_cases h128 : f n = 128
      · rw [h128] at c0
        have HS := Lib.hid (Sl.of_fun (w := wr) (B := wr.heap.size) (g := w.heap.size) (o := 0) (n := n) (f := f) (fun j hj => HF.out j (by omega)) (fun j hj => by rw [Nat.zero_add]; exact (hK1 j (by omega)).1) (hK1.lt (by omega)))
        have hsl := slice16h w.heap.size n (by omega)
        have hcl := Lib.hid (bclone (some ⟨w.heap.size, 0, none⟩) n 16 (liB n f) wr HS.out (by omega))
        rcases Nat.eq_zero_or_pos n with rfl | h0
        · go_wp2_with fail
          refine hcl.out.mono ?_
          rintro e w2 ⟨rfl, hA2, hl2, hb2⟩
          have hb3 := hb1.trans (hb2.mono hb1.size)
          rw [hs1] at hA2 hl2
          go_wp2_with fail
          go_ret2
          exact Or.inl ⟨0, w.heap.size + 1, by omega, h128, hzz.out, rfl, hA2.ext (fun j hj => lF_liB _ f (fun j hj => HF.out j (by omega)) j hj), by omega, hl2, hb3⟩
        · have i1 : (0 : Int) < (n : Int) := by omega
          go_wp2_with fail
          refine hcl.out.mono ?_
          rintro e w2 ⟨rfl, hA2, hl2, hb2⟩
          have hb3 := hb1.trans (hb2.mono hb1.size)
          rw [hs1] at hA2 hl2
          go_wp2_with fail
          go_ret2
          exact Or.inl ⟨n, w.heap.size + 1, by omega, h128, hzz.out, rfl, hA2.ext (fun j hj => lF_liB _ f (fun j hj => HF.out j (by omega)) j hj), by omega, hl2, hb3⟩
      · have hfin := Lib.hid (show ∀ m, m < 16 → f m = 128 → ∃ j, m < j ∧ j < 16 ∧ f j ≠ 0 from fun m hm h => by
          by_cases e1 : m = n
          · rw [e1] at h; exact absurd h h128
          · by_cases e2 : n < m
            · have := hzz.out m e2 hm; omega
            · refine ⟨n, by omega, by omega, fun e => hno.out ⟨by omega, e⟩⟩)
        have hb : (((f n : Nat) : Int) == 128) = false := by simp; omega
        have hb2 : ¬ ((f n : Nat) : Int) = 128 := by omega
        rcases Nat.eq_zero_or_pos n with rfl | h0
        · go_wp2_with fail
          go_ret2
          exact Or.inr ⟨hfin.out, rfl, hb1⟩
        · have i1 : (0 : Int) < (n : Int) := by omega
          have hc : (((f n : Nat) : Int) == 0) = false := by
            have : f n ≠ 0 := fun e => hno.out ⟨h0, e⟩
            simp; omega
          have hc2 : ¬ ((f n : Nat) : Int) = 0 := by simpa using hc
          go_wp2_with fail
          go_ret2
          exact Or.inr ⟨hfin.out, rfl, hb1⟩
end Go.Proofs.Ytejgeefhnpeejaa
