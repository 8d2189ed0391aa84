/-
  Arrays of 12 and of 24 bytes; a whole array stored into a block that is known whole; contracts of Bottom and Stretch of package offset and of the reference package of layer 10, by walks through their texts.
-/
import Derived.Test.YtblhfmlgpldaeaaDoorOfa
import Derived.Test.YtblhfmlgpldaeaaDoorBkf
import Derived.Test.YtblhfmlgpldaeaaDoorEqs
import Derived.Test.YtblhfmlgpldaeaaDoorBits
import Derived.Deep.RegionHeld3
namespace Go.Proofs.YtblhfmlgpldaeaaDoor
open Go.RowKit
set_option linter.unusedVariables false
set_option maxRecDepth 100000

theorem Tryd.arr12 : Tryd.prog.underlying 23 = some (.array 12 5) := by kernel_rfl
theorem Tryd.zero12 : (Tryd.prog.info? 23).map (fun i => (i.zero, i.size)) = some (some (.agg (Array.replicate 12 (.int .u8 0))), 12) := by kernel_rfl
theorem size12 (f : Nat → Nat) : (Tryd.prog.info? 23).map (·.size) = some (arL 12 f).length := by rw [arL_len]; exact (zero_of_info Tryd.zero12).2
theorem zero12 (w : World) : (zeroValue 23).run Tryd.prog w = .ok (.agg (arL 12 fun _ => 0).toArray) w := by
  rw [arL_zero]; exact (zero_of_info Tryd.zero12).1 w
theorem Tryd.zero24o : (Tryd.prog.info? 38).map (fun i => (i.zero, i.size)) = some (some (.agg (Array.replicate 24 (.int .u8 0))), 24) := by kernel_rfl
theorem size24o (f : Nat → Nat) : (Tryd.prog.info? 38).map (·.size) = some (arL 24 f).length := by rw [arL_len]; exact (zero_of_info Tryd.zero24o).2
theorem zero24o (w : World) : (zeroValue 38).run Tryd.prog w = .ok (.agg (arL 24 fun _ => 0).toArray) w := by
  rw [arL_zero]; exact (zero_of_info Tryd.zero24o).1 w
/-! ### A block known whole -/
theorem block_setCells (g : Nat) (t : TypeId) : ∀ (vs : List Value) (o : Nat) (w : World) (A : Array Value), w.heap[g]? = some (.cells A t (0, 0)) → ∃ A' : Array Value, (w.setCells g o vs).heap[g]? = some (.cells A' t (0, 0)) ∧ A'.size = A.size
  | [], _, _, A, h => ⟨A, h, rfl⟩
  | v :: r, o, w, A, h => by
    have h1 : (w.setCell ⟨g, o, none⟩ v).heap[g]? = some (.cells (A.setIfInBounds o v) t (0, 0)) := by
      simp [World.setCell, Array.getElem?_modify, h]
    obtain ⟨A', h2, h3⟩ := block_setCells g t r (o + 1) _ _ h1
    exact ⟨A', h2, by rw [h3]; simp⟩
theorem Wb.whole {w : World} {g n : Nat} {F : Nat → Nat} {t : TypeId} (h : Wb w g n F t) (F' : Nat → Nat) : Wb (w.setCells g 0 (arL n F')) g n F' t := by
  obtain ⟨A', h2, h3⟩ := block_setCells g t (arL n F') 0 w _ h
  have ha := h.ar.whole F'
  unfold Wb
  rw [h2]
  refine congrArg some (congrArg (fun c => Obj.cells c t (0, 0)) ?_)
  apply Array.ext_getElem?
  intro j
  rcases Nat.lt_or_ge j n with hj | hj
  · have := (ha j hj).1
    simp only [World.cell?, h2] at this
    have e : (arL n F').toArray[j]? = (arL n F')[j]? := by simp
    rw [e, arL_get n F' j hj]
    simpa [n8] using this
  · rw [Array.getElem?_eq_none (by rw [h3]; simp [arL_len]; exact hj), Array.getElem?_eq_none (by simp [arL_len]; exact hj)]
theorem wpList_store_wb {P : Program} {ops : Array Oper} {rest : List Oper} {op : Oper} {a : Act} {w : World} {Q : Exit → Act → World → Prop} (hgd : op.guard = none) (ty : TypeId) (x y : Operand) (ho : op.op = .store ty x y)
    (g n : Nat) (f f' : Nat → Nat) (t : TypeId) (hx : a.eval x = .pointer (some ⟨g, 0, none⟩)) (hy : a.eval y = .agg (arL n f').toArray)
    (hW : Wb w g n f t) (hi : (P.info? ty).map (·.size) = some (arL n f').length)
    (h : ∀ w', Wb w' g n f' t → Below g w w' → w'.heap.size = w.heap.size → (∀ g' n' f'', g' ≠ g → Ar w g' n' f'' → Ar w' g' n' f'') → wpList P ops Q rest (a.put op.dst undef) w') :
    wpList P ops Q (op :: rest) a w := by
  refine wpList_store_mid hgd ty x y ho g 0 _ hx hy ?_ ?_ (all_oneCell_toArray (arL_one n f')) ?_
  · rw [List.size_toArray, arL_len]; exact hW.ar.there
  · rw [List.size_toArray]; exact hi
  · exact h _ (hW.whole f') (Below.setCells (Below.refl _ _) (Nat.le_refl _) _ _) (World.setCells_size _ _ _ _) (fun g' n' f'' hg' h' => h'.apart hg' _ _)
theorem stF_hi (b : Nat → Nat) (k : Nat) : stF b (16 + k) = b k ^^^ b (k + 1) := by
  unfold stF
  rw [if_neg (by omega), show 16 + k - 16 = k by omega, show 16 + k - 15 = k + 1 by omega]
/-! ### The last six bits of a byte -/
theorem and_low : ∀ x : Nat, x < 256 → bits .and .u8 (x : Int) 63 = ((x % 64 : Nat) : Int) := by decide +kernel
theorem not_low : ∀ x : Nat, x < 256 → bits .andNot .u8 (x : Int) 63 = ((x / 64 * 64 : Nat) : Int) := by decide +kernel
theorem sub_low (x : Nat) (h : x < 256) : ((x : Int).tmod 64 = ((x % 64 : Nat) : Int) ∧ (x : Int) % 64 = ((x % 64 : Nat) : Int)) ∧ (x : Int) - ((x % 64 : Nat) : Int) = ((x / 64 * 64 : Nat) : Int) := by
  refine ⟨⟨?_, by omega⟩, by omega⟩
  rw [Int.tmod_eq_emod_of_nonneg (by omega)]; omega

set_option maxHeartbeats 1600000 in
theorem obottom (n : Nat → Nat) (w : World) (hn : B12 n) :
    Calls Tryd.prog 12 #[.agg (arL 12 n).toArray] w fun e w' => e = .returned (.int .i64 (n 11 % 64 : Nat)) ∧ Below w.heap.size w w' := by
  obtain ⟨kK, hkK⟩ : ∃ k : Array Value, (arL 12 (n)).toArray = k := ⟨_, rfl⟩
  obtain ⟨w1, hw1⟩ : ∃ V : World, V = w.alloc (.cells (arL 12 (n)).toArray 23) := ⟨_, rfl⟩
  have hs1 : w1.heap.size = w.heap.size + 1 := by rw [hw1]; simp
  have hBw1 : Below w.heap.size w w1 := by rw [hw1]; exact (Below.refl _ _).alloc (Nat.le_refl _) _
  have hKw1 : Ar w1 w.heap.size 12 (n) := by rw [hw1]; exact Ar.new w 12 _ _
  have HKK := Lib.hid hkK
  rw [hkK] at hw1
  rw [hkK]
  clear hkK
  have c11 := (hKw1 11 (by omega)).1
  have hx := hn 11 (by omega)
  have h1 := and_low _ hx
  have h2 : n 11 % 64 < 64 := Nat.mod_lt _ (by decide)
  generalize n 11 % 64 = q at *
  generalize n 11 = x at *
  clear hn hKw1
  go_enter Tryd.func12, Tryd.ntmps12
  go_upto_region 1 with fail
  rw [← hw1]
  clear hw1
  try simp only [Nat.add_assoc, Nat.reduceAdd]
  clear hs1 
  go_wp2_with fail
  go_ret
  exact ⟨rfl, hBw1⟩

set_option maxHeartbeats 1600000 in
theorem rbottom (n : Nat → Nat) (w : World) (hn : B12 n) :
    Calls Tryd.prog 13 #[.agg (arL 12 n).toArray] w fun e w' => e = .returned (.int .i64 (n 11 % 64 : Nat)) ∧ Below w.heap.size w w' := by
  obtain ⟨kK, hkK⟩ : ∃ k : Array Value, (arL 12 (n)).toArray = k := ⟨_, rfl⟩
  obtain ⟨w1, hw1⟩ : ∃ V : World, V = w.alloc (.cells (arL 12 (n)).toArray 23) := ⟨_, rfl⟩
  have hs1 : w1.heap.size = w.heap.size + 1 := by rw [hw1]; simp
  have hBw1 : Below w.heap.size w w1 := by rw [hw1]; exact (Below.refl _ _).alloc (Nat.le_refl _) _
  have hKw1 : Ar w1 w.heap.size 12 (n) := by rw [hw1]; exact Ar.new w 12 _ _
  have HKK := Lib.hid hkK
  rw [hkK] at hw1
  rw [hkK]
  clear hkK
  have c11 := (hKw1 11 (by omega)).1
  have hx := hn 11 (by omega)
  have h1 := (sub_low _ hx).1.1
  have h3 := (sub_low _ hx).1.2
  have h2 : n 11 % 64 < 64 := Nat.mod_lt _ (by decide)
  generalize n 11 % 64 = q at *
  generalize n 11 = x at *
  clear hn hKw1
  go_enter Tryd.func13, Tryd.ntmps13
  go_upto_region 1 with fail
  rw [← hw1]
  clear hw1
  try simp only [Nat.add_assoc, Nat.reduceAdd]
  clear hs1 
  go_wp2_with fail
  go_ret
  exact ⟨rfl, hBw1⟩

set_option maxHeartbeats 1600000 in
theorem ostretch (b : Nat → Nat) (w : World) (hb : B16 b) :
    Calls Tryd.prog 18 #[.agg (arL 16 b).toArray] w fun e w' => e = .returned (.agg (arL 24 (stF b)).toArray) ∧ Below w.heap.size w w' := by
  obtain ⟨kK, hkK⟩ : ∃ k : Array Value, (arL 16 (b)).toArray = k := ⟨_, rfl⟩
  obtain ⟨w1, hw1⟩ : ∃ V : World, V = w.alloc (.cells (arL 16 (b)).toArray 22) := ⟨_, rfl⟩
  have hs1 : w1.heap.size = w.heap.size + 1 := by rw [hw1]; simp
  have hBw1 : Below w.heap.size w w1 := by rw [hw1]; exact (Below.refl _ _).alloc (Nat.le_refl _) _
  have hKw1 : Ar w1 w.heap.size 16 (b) := by rw [hw1]; exact Ar.new w 16 _ _
  obtain ⟨w2, hw2⟩ : ∃ V : World, V = w1.alloc (.cells (arL 24 (fun _ => 0)).toArray 38) := ⟨_, rfl⟩
  have hs2 : w2.heap.size = w.heap.size + 2 := by rw [hw2]; simp [hs1]
  have hBw2 : Below w.heap.size w w2 := by rw [hw2]; exact hBw1.alloc (by omega) _
  have hKw2 := hKw1.alloc (by omega) (.cells (arL 24 (fun _ => 0)).toArray 38)
  rw [← hw2] at hKw2
  have hRw2 : Ar w2 (w.heap.size + 1) 24 (fun _ => 0) := by rw [hw2, ← hs1]; exact Ar.new w1 24 _ _
  clear hKw1 hBw1
  obtain ⟨w3, hw3⟩ : ∃ V : World, V = w2.alloc (.cells (arL 24 (fun _ => 0)).toArray 38) := ⟨_, rfl⟩
  have hs3 : w3.heap.size = w.heap.size + 3 := by rw [hw3]; simp [hs2]
  have hBw3 : Below w.heap.size w w3 := by rw [hw3]; exact hBw2.alloc (by omega) _
  have hKw3 := hKw2.alloc (by omega) (.cells (arL 24 (fun _ => 0)).toArray 38)
  rw [← hw3] at hKw3
  have hRw3 := hRw2.alloc (by omega) (.cells (arL 24 (fun _ => 0)).toArray 38)
  rw [← hw3] at hRw3
  have hWw3 : Ar w3 (w.heap.size + 2) 24 (fun _ => 0) := by rw [hw3, ← hs2]; exact Ar.new w2 24 _ _
  clear hKw2 hRw2 hBw2
  have HKK := Lib.hid hkK
  rw [hkK] at hw1
  rw [hkK]
  clear hkK
  have hWb : Wb w3 (w.heap.size + 2) 24 (fun _ => 0) 38 := by rw [hw3, ← hs2]; exact Wb.new w2 24 _ _
  have hz := zero24o
  have HB := Lib.hid hb
  clear hb
  have HFR := Lib.hid (show splice (arL 24 fun _ => 0) 0 (arL 16 b) = arL 24 (fun j => if j < 16 then b j else 0) by
    rw [splice_ar 24 16 _ _ 0 (by omega)]
    exact arL_ext (fun j hj => by simp))
  go_enter Tryd.func18, Tryd.ntmps18
  go_upto_region 2 with fail
  rw [← hw1, ← hw2, ← hw3]
  clear hw1 hw2 hw3
  try simp only [Nat.add_assoc, Nat.reduceAdd]
  obtain ⟨gR, hgR⟩ : ∃ g : Nat, w.heap.size + 1 = g := ⟨_, rfl⟩
  rw [hgR] at hRw3
  obtain ⟨gW, hgW⟩ : ∃ g : Nat, w.heap.size + 2 = g := ⟨_, rfl⟩
  rw [hgW] at hWw3
  rw [hgW] at hWb
  try rw [hgW]
  try rw [hgR]
  have hlR : w.heap.size < gR := by omega
  have hlW : gR < gW := by omega
  clear hs1 hs2 hs3 hgR hgW
  have hsrc := Lib.hid hKw3.drew.src
  have HW := Lib.hid (show w3.drew.heap[gW]? = some (.cells (arL 24 fun _ => 0).toArray 38 (0, 0)) from hWb)
  have HMi := Lib.hid (show (arL 16 b).length = Nat.min 16 24 by rw [arL_len]; rfl)
  have HFi := Lib.hid (show 0 + (arL 16 b).length ≤ (arL 24 fun _ => 0).length by rw [arL_len, arL_len]; omega)
  have hlen : (((arL 16 b).length : Nat) : Int) = 16 := by rw [arL_len]; rfl
  go_region_law (refine step_copy_splice rfl (.tmp 6) (.tmp 7) 66 66 rfl 5 Tryd.sl8 Tryd.sz8 _ _ _ _ _ _ rfl rfl gW 0 (arL 24 fun _ => 0) 38 HW.out (arL 16 b) HMi.out (fun _ => ⟨rfl, ⟨w.heap.size, 0, none⟩, rfl, hsrc.out⟩) HFi.out (arL_one 16 _) gW w3.drew (Below.refl _ _) (Nat.le_refl _) ?_; intro w4 hW4 hb4)
  have hT4 : Ar w4 gW 24 (fun j => if j < 16 + 0 then stF b j else 0) := by
    have h := hW4.out
    rw [HFR.out] at h
    exact (Wb.ar (show Wb w4 gW 24 _ _ from h)).ext (fun j hj => by unfold stF; by_cases h : j < 16 <;> simp [h])
  have hK4 := hKw3.drew.keep (by omega) hb4
  have hR4 := hRw3.drew.keep hlW hb4
  have hB4 := hBw3.drew.trans (hb4.mono (by omega))
  clear hKw3 hRw3 hBw3 hWw3 hWb hb4 hW4 HW hsrc HMi HFi HFR hlen
  try dsimp only [Act.put]
  go_wp2_with fail
  go_loopw [11] (fun i wr => ∃ k : Nat, k ≤ 8 ∧ i = .int .i64 k ∧ Ar wr gW 24 (fun j => if j < 16 + k then stF b j else 0) ∧ Ar wr w.heap.size 16 b ∧ Ar wr gR 24 (fun _ => 0) ∧ Below w.heap.size w wr) (fun i _ => 8 - (intOf i).toNat)
  case atStart => exact ⟨0, Nat.zero_le _, rfl, hT4, hK4, hR4, hB4⟩
  case round =>
    clear hT4 hK4 hR4 hB4
    obtain ⟨k, hk, rfl, hT, hK, hR, hB⟩ := hrel
    by_cases hlt : k < 8
    · have i1 : (k : Int) < 8 := by omega
      obtain ⟨a, ha⟩ : ∃ a : Nat, 16 + k = a := ⟨_, rfl⟩
      have a1 : (16 : Int) + (k : Int) = (a : Int) := by omega
      have a2 : (a : Int) < 24 := by omega
      have a3 : (k : Int) + 1 < 16 := by omega
      obtain ⟨c0, _⟩ := hK k (by omega)
      obtain ⟨c1, _⟩ := hK (k + 1) (by omega)
      obtain ⟨c2, f2⟩ := hT a (by omega)
      have hxx : bits BinOp.xor IntKind.u8 ((b k : Nat) : Int) ((b (k + 1) : Nat) : Int) = ((stF b a : Nat) : Int) := by rw [← ha, stF_hi]; exact xor_n8 _ _ (HB.out k (by omega)) (HB.out (k + 1) (by omega))
      have hT2 := Lib.hid ((hT.set (j := a) (v := stF b a) (by omega) rfl).ext (f' := fun j => if j < a + 1 then stF b j else 0) (fun j _ => by rw [ha]; exact low_step (stF b) a j))
      have hK2 := Lib.hid (hK.far (p := ⟨gW, a, none⟩) (by simp; omega) (.int .u8 (stF b a : Nat)))
      have hR2 := Lib.hid (hR.far (p := ⟨gW, a, none⟩) (by simp; omega) (.int .u8 (stF b a : Nat)))
      have hB2 := Lib.hid (hB.setCell (p := ⟨gW, a, none⟩) (by simp; omega) (.int .u8 (stF b a : Nat)))
      clear hT hK hR hB
      generalize stF b a = z at *
      generalize b (k + 1) = y at *
      generalize b k = x at *
      go_wp2_with fail
      refine wp_region_noPanic ?_
      go_big_region
      refine NoPanic.normal ?_
      clear a1 a2 a3 c0 c1 c2 f2 hxx
      go_wp2_with fail
      go_roundw
      case rel => exact ⟨k + 1, by omega, by go_num, by rw [show 16 + (k + 1) = a + 1 by omega]; exact hT2.out.drew, hK2.out.drew, hR2.out.drew, hB2.out.drew⟩
      case measure => simp [intOf]; omega
    · obtain rfl : k = 8 := by omega
      have hT2 := hT.ext (f' := stF b) (fun j hj => by rw [if_pos (by omega)])
      clear hT
      go_wp2_with (first
        | (refine wpList_load_ar rfl _ _ rfl _ _ _ rfl hT2 Tryd.arr24 (size24o _) ?_)
        | (refine wpList_store_ar rfl _ _ _ rfl _ _ _ (stF b) rfl rfl hR (size24o _) ?_; intro w8 hA8 hb8 _ _))
      refine bodyPost_ret_ar rfl rfl hA8 Tryd.arr24 (size24o _) rfl ⟨rfl, ?_⟩
      exact hB.trans (hb8.mono (by omega))

set_option maxHeartbeats 1600000 in
theorem rstretch (b : Nat → Nat) (w : World) (hb : B16 b) :
    Calls Tryd.prog 19 #[.agg (arL 16 b).toArray] w fun e w' => e = .returned (.agg (arL 24 (stF b)).toArray) ∧ Below w.heap.size w w' := by
  obtain ⟨kK, hkK⟩ : ∃ k : Array Value, (arL 16 (b)).toArray = k := ⟨_, rfl⟩
  obtain ⟨w1, hw1⟩ : ∃ V : World, V = w.alloc (.cells (arL 16 (b)).toArray 22) := ⟨_, rfl⟩
  have hs1 : w1.heap.size = w.heap.size + 1 := by rw [hw1]; simp
  have hBw1 : Below w.heap.size w w1 := by rw [hw1]; exact (Below.refl _ _).alloc (Nat.le_refl _) _
  have hKw1 : Ar w1 w.heap.size 16 (b) := by rw [hw1]; exact Ar.new w 16 _ _
  obtain ⟨w2, hw2⟩ : ∃ V : World, V = w1.alloc (.cells (arL 24 (fun _ => 0)).toArray 38) := ⟨_, rfl⟩
  have hs2 : w2.heap.size = w.heap.size + 2 := by rw [hw2]; simp [hs1]
  have hBw2 : Below w.heap.size w w2 := by rw [hw2]; exact hBw1.alloc (by omega) _
  have hKw2 := hKw1.alloc (by omega) (.cells (arL 24 (fun _ => 0)).toArray 38)
  rw [← hw2] at hKw2
  have hRw2 : Ar w2 (w.heap.size + 1) 24 (fun _ => 0) := by rw [hw2, ← hs1]; exact Ar.new w1 24 _ _
  clear hKw1 hBw1
  obtain ⟨w3, hw3⟩ : ∃ V : World, V = w2.alloc (.cells (arL 24 (fun _ => 0)).toArray 38) := ⟨_, rfl⟩
  have hs3 : w3.heap.size = w.heap.size + 3 := by rw [hw3]; simp [hs2]
  have hBw3 : Below w.heap.size w w3 := by rw [hw3]; exact hBw2.alloc (by omega) _
  have hKw3 := hKw2.alloc (by omega) (.cells (arL 24 (fun _ => 0)).toArray 38)
  rw [← hw3] at hKw3
  have hRw3 := hRw2.alloc (by omega) (.cells (arL 24 (fun _ => 0)).toArray 38)
  rw [← hw3] at hRw3
  have hWw3 : Ar w3 (w.heap.size + 2) 24 (fun _ => 0) := by rw [hw3, ← hs2]; exact Ar.new w2 24 _ _
  clear hKw2 hRw2 hBw2
  have HKK := Lib.hid hkK
  rw [hkK] at hw1
  rw [hkK]
  clear hkK
  have hz := zero24o
  have HB := Lib.hid hb
  clear hb
  go_enter Tryd.func19, Tryd.ntmps19
  go_upto_region 2 with fail
  rw [← hw1, ← hw2, ← hw3]
  clear hw1 hw2 hw3
  try simp only [Nat.add_assoc, Nat.reduceAdd]
  obtain ⟨gR, hgR⟩ : ∃ g : Nat, w.heap.size + 1 = g := ⟨_, rfl⟩
  rw [hgR] at hRw3
  obtain ⟨gW, hgW⟩ : ∃ g : Nat, w.heap.size + 2 = g := ⟨_, rfl⟩
  rw [hgW] at hWw3
  try rw [hgW]
  try rw [hgR]
  have hlR : w.heap.size < gR := by omega
  have hlW : gR < gW := by omega
  clear hs1 hs2 hs3 hgR hgW
  have hT4 := hWw3.ext (f' := fun j => if j < 0 then stF b j else 0) (fun j _ => by simp)
  go_wp2_with fail
  go_loopw [4] (fun i wr => ∃ k : Nat, k ≤ 24 ∧ i = .int .i64 k ∧ Ar wr gW 24 (fun j => if j < k then stF b j else 0) ∧ Ar wr w.heap.size 16 b ∧ Ar wr gR 24 (fun _ => 0) ∧ Below w.heap.size w wr) (fun i _ => 24 - (intOf i).toNat)
  case atStart => exact ⟨0, Nat.zero_le _, rfl, hT4, hKw3, hRw3, hBw3⟩
  case round =>
    clear hT4 hWw3 hKw3 hRw3 hBw3
    obtain ⟨k, hk, rfl, hT, hK, hR, hB⟩ := hrel
    by_cases hlt : k < 24
    · have i1 : (k : Int) < 24 := by omega
      obtain ⟨c2, f2⟩ := hT k (by omega)
      have hT2 := Lib.hid ((hT.set (j := k) (v := stF b k) (by omega) rfl).ext (f' := fun j => if j < k + 1 then stF b j else 0) (fun j _ => low_step (stF b) k j))
      have hK2 := Lib.hid (hK.far (p := ⟨gW, k, none⟩) (by simp; omega) (.int .u8 (stF b k : Nat)))
      have hR2 := Lib.hid (hR.far (p := ⟨gW, k, none⟩) (by simp; omega) (.int .u8 (stF b k : Nat)))
      have hB2 := Lib.hid (hB.setCell (p := ⟨gW, k, none⟩) (by simp; omega) (.int .u8 (stF b k : Nat)))
      by_cases h16 : k < 16
      · have i2 : (k : Int) < 16 := by omega
        obtain ⟨c0, _⟩ := hK k h16
        rw [show b k = stF b k by unfold stF; rw [if_pos h16]] at c0
        clear hT hK hR hB
        generalize stF b k = z at *
        go_wp2_with fail
        go_roundw
        case rel => exact ⟨k + 1, by omega, by go_num, hT2.out, hK2.out, hR2.out, hB2.out⟩
        case measure => simp [intOf]; omega
      · have i2 : ¬ (k : Int) < 16 := by omega
        obtain ⟨p, hp⟩ : ∃ p : Nat, 16 + p = k := ⟨k - 16, by omega⟩
        obtain ⟨q, hq⟩ : ∃ q : Nat, p + 1 = q := ⟨_, rfl⟩
        have a1 : (k : Int) - 16 = (p : Int) := by omega
        have a2 : (k : Int) - 15 = (q : Int) := by omega
        have a3 : (p : Int) < 16 := by omega
        have a4 : (q : Int) < 16 := by omega
        obtain ⟨c0, _⟩ := hK p (by omega)
        obtain ⟨c1, _⟩ := hK q (by omega)
        have hxx : bits BinOp.xor IntKind.u8 ((b p : Nat) : Int) ((b q : Nat) : Int) = ((stF b k : Nat) : Int) := by rw [← hp, stF_hi, hq]; exact xor_n8 _ _ (HB.out p (by omega)) (HB.out q (by omega))
        clear hT hK hR hB hp hq
        generalize stF b k = z at *
        generalize b q = y at *
        generalize b p = x at *
        go_wp2_with fail
        refine wp_region_noPanic ?_
        go_big_region
        refine NoPanic.normal ?_
        clear a1 a2 a3 a4 c0 c1 c2 f2 hxx
        go_wp2_with fail
        go_roundw
        case rel => exact ⟨k + 1, by omega, by go_num, hT2.out.drew, hK2.out.drew, hR2.out.drew, hB2.out.drew⟩
        case measure => simp [intOf]; omega
    · obtain rfl : k = 24 := by omega
      have hT2 := hT.ext (f' := stF b) (fun j hj => by rw [if_pos (by omega)])
      clear hT
      go_wp2_with (first
      | (refine wpList_load_ar rfl _ _ rfl _ _ _ rfl hT2 Tryd.arr24 (size24o _) ?_)
      | (refine wpList_store_ar rfl _ _ _ rfl _ _ _ (stF b) rfl rfl hR (size24o _) ?_; intro w8 hA8 hb8 _ _))
      refine bodyPost_ret_ar rfl rfl hA8 Tryd.arr24 (size24o _) rfl ⟨rfl, ?_⟩
      exact hB.trans (hb8.mono (by omega))
end Go.Proofs.YtblhfmlgpldaeaaDoor
