/-
  Contract of Mix in the reference package of layer 6, by a walk through its text; what was there stays as it was.
-/
import Derived.Test.YtghcpfcomhfppaaDoorCra
import Derived.Test.YtghcpfcomhfppaaDoorFir
import Derived.Test.YtghcpfcomhfppaaDoorReg
import Derived.Deep.RegionWith
import Derived.Deep.RegionHeld3
namespace Go.Proofs.YtghcpfcomhfppaaDoor
open Go.RowKit
set_option linter.unusedVariables false
set_option maxRecDepth 100000

/-- The byte of row r and column c, mixed. -/
def mxG (f : Nat → Nat) (m : Nat) : Nat :=
  ((mul 2 (f m) ^^^ mul 3 (f ((m / 4 + 1) % 4 * 4 + m % 4))) ^^^ f ((m / 4 + 2) % 4 * 4 + m % 4)) ^^^ f ((m / 4 + 3) % 4 * 4 + m % 4)
theorem mxG_tr (f : Nat → Nat) (hf : B16 f) (m : Nat) (hm : m < 16) : mxG f m = tr (miF (tr f)) m := by
  have H1 : ∀ m, m < 16 → 4 * ((4 * (m % 4) + m / 4) % 4) + (4 * (m % 4) + m / 4) / 4 = m := by decide
  have H2 : ∀ k, k < 4 → ∀ m, m < 16 → 4 * (((4 * (m % 4) + m / 4) / 4 * 4 + (4 * (m % 4) + m / 4 + k) % 4) % 4) + ((4 * (m % 4) + m / 4) / 4 * 4 + (4 * (m % 4) + m / 4 + k) % 4) / 4 = (m / 4 + k) % 4 * 4 + m % 4 := by decide
  unfold mxG miF mxF tr
  dsimp only
  rw [H1 m hm, H2 1 (by omega) m hm, H2 2 (by omega) m hm, H2 3 (by omega) m hm, one_mul_ _ (hf _ (by omega)), one_mul_ _ (hf _ (by omega))]
/-- The columns ahead of c are mixed, and in column c the rows ahead of r. -/
def mxP (f : Nat → Nat) (c r m : Nat) : Nat := if m % 4 < c ∨ m % 4 = c ∧ m / 4 < r then mxG f m else 0
theorem mxP_next (f : Nat → Nat) (c m : Nat) (hm : m < 16) : mxP f c 4 m = mxP f (c + 1) 0 m := by
  unfold mxP
  by_cases h : m % 4 < c ∨ m % 4 = c ∧ m / 4 < 4
  · rw [if_pos h, if_pos (by omega)]
  · rw [if_neg h, if_neg (by omega)]
theorem mxP_step (f : Nat → Nat) (c r m : Nat) (hc : c < 4) (hr : r < 4) (hm : m < 16) : (if m = r * 4 + c then mxG f (r * 4 + c) else mxP f c r m) = mxP f c (r + 1) m := by
  unfold mxP
  by_cases h : m = r * 4 + c
  · rw [if_pos h, if_pos (by omega), h]
  · rw [if_neg h]
    by_cases h2 : m % 4 < c ∨ m % 4 = c ∧ m / 4 < r
    · rw [if_pos h2, if_pos (by omega)]
    · rw [if_neg h2, if_neg (by omega)]
theorem heldT {a b : Addr} {x y : Value} {W1 W W' : World} (k : W.cell? a = some x ∧ W.cell? b = some y ∧ Base W1 W) (ha : a.block < W.heap.size) (hb : b.block < W.heap.size) (hl : Below W.heap.size W W') :
    W'.cell? a = some x ∧ W'.cell? b = some y ∧ Base W1 W' := ⟨(hl.cell ha).trans k.1, (hl.cell hb).trans k.2.1, Base.step k.2.2 hl⟩
theorem cell_lt {W : World} {g o : Nat} {x : Value} (h : W.cell? ⟨g, o, none⟩ = some x) : g < W.heap.size := by
  rcases Nat.lt_or_ge g W.heap.size with h1 | h1
  · exact h1
  · simp [World.cell?, Array.getElem?_eq_none h1] at h

/-- What the walk asks of (r + k) % 4. -/
theorem rowf (r kn : Nat) (k : Int) (q : Nat) (hk : k = (kn : Int)) (hr : r < 4) (hkn : kn < 4) (hq : q = (r + kn) % 4) :
    (IntKind.i64.wrap ((r : Int) + k) = (r : Int) + k ∧ wrap64 ((r : Int) + k) = (r : Int) + k) ∧ (((r : Int) + k).tmod 4 = (q : Int) ∧ ((r : Int) + k) % 4 = (q : Int)) ∧ IntKind.i64.wrap (q : Int) = (q : Int) ∧ (q : Int) < 4 := by
  subst hk
  refine ⟨⟨wraps_i64' _ (by omega) (by omega), IntWalk.wrap64_in _ (by omega)⟩, ⟨?_, by omega⟩, wraps_i64' _ (by omega) (by omega), by omega⟩
  rw [Int.tmod_eq_emod_of_nonneg (by omega)]; omega
theorem refmul2 (x : Nat) (w : World) (hx : x < 256) : Calls Tryd.prog 29 #[.int .u8 2, .int .u8 x] w fun e w' => e = .returned (.int .u8 (mul 2 x : Nat)) ∧ Below w.heap.size w w' := refmul 2 x w (by omega) hx
theorem refmul3 (x : Nat) (w : World) (hx : x < 256) : Calls Tryd.prog 29 #[.int .u8 3, .int .u8 x] w fun e w' => e = .returned (.int .u8 (mul 3 x : Nat)) ∧ Below w.heap.size w w' := refmul 3 x w (by omega) hx

set_option maxHeartbeats 1600000 in
theorem refMix6 (f : Nat → Nat) (w : World) (hf : B16 f) :
    Calls Tryd.prog 21 #[.agg (arL 16 f).toArray] w fun e w' => e = .returned (.agg (arL 16 (tr (miF (tr f)))).toArray) ∧ Below w.heap.size w w' := by
  have hz := zeroG
  obtain ⟨kA, hkA⟩ : ∃ kA : Array Value, (arL 16 f).toArray = kA := ⟨_, rfl⟩
  obtain ⟨w1, hw1⟩ : ∃ w1 : World, w1 = w.alloc (.cells (arL 16 f).toArray 34) := ⟨_, rfl⟩
  have hs1 : w1.heap.size = w.heap.size + 1 := by rw [hw1]; simp
  have hb1 : Below w.heap.size w w1 := by rw [hw1]; exact (Below.refl _ _).alloc (Nat.le_refl _) _
  have hK1 : Ar w1 w.heap.size 16 f := by rw [hw1]; exact Ar.new w 16 f _
  obtain ⟨w2, hw2⟩ : ∃ w2 : World, w2 = w1.alloc (.cells (arL 16 fun _ => 0).toArray 34) := ⟨_, rfl⟩
  have hs2 : w2.heap.size = w.heap.size + 2 := by rw [hw2]; simp [hs1]
  have hb2 : Below w.heap.size w w2 := by rw [hw2]; exact hb1.alloc (by omega) _
  have hR2 : Ar w2 (w.heap.size + 1) 16 (fun _ => 0) := by rw [hw2, ← hs1]; exact Ar.new w1 16 _ _
  have hK2 : Ar w2 w.heap.size 16 f := by rw [hw2]; exact hK1.alloc (by omega) _
  obtain ⟨w3, hw3⟩ : ∃ w3 : World, w3 = w2.alloc (.cells (arL 16 fun _ => 0).toArray 34) := ⟨_, rfl⟩
  have hb3 : Below w.heap.size w w3 := by rw [hw3]; exact hb2.alloc (by omega) _
  have hT3 : Ar w3 (w.heap.size + 2) 16 (fun _ => 0) := by rw [hw3, ← hs2]; exact Ar.new w2 16 _ _
  have hR3 : Ar w3 (w.heap.size + 1) 16 (fun _ => 0) := by rw [hw3]; exact hR2.alloc (by omega) _
  have hK3 : Ar w3 w.heap.size 16 f := by rw [hw3]; exact hK2.alloc (by omega) _
  rw [hkA] at hw1
  rw [hkA]
  clear hb1 hK1 hb2 hR2 hK2 hkA
  go_enter Tryd.func21, Tryd.ntmps21
  go_upto_region 2 with fail
  rw [← hw1, ← hw2, ← hw3]
  clear hw1 hw2 hw3 hs1 hs2
  obtain ⟨gT, hgT⟩ : ∃ gT : Nat, w.heap.size + 2 = gT := ⟨_, rfl⟩
  have hge : w.heap.size + 2 ≤ gT := by omega
  have hgT2 : w.heap.size + 1 + 1 = gT := hgT
  rw [hgT] at hT3
  rw [hgT2]
  clear hgT hgT2
  have HF := Lib.hid hf
  clear hf
  go_wp2_with fail
  go_loopw [4] (fun i wr => ∃ c : Nat, c ≤ 4 ∧ i = .int .i64 c ∧ Ar wr w.heap.size 16 f ∧ Ar wr (w.heap.size + 1) 16 (fun _ => 0) ∧ Ar wr gT 16 (mxP f c 0) ∧ Below w.heap.size w wr) (fun i _ => 4 - (intOf i).toNat)
  case atStart => exact ⟨0, Nat.zero_le _, rfl, hK3, hR3, hT3.ext (fun _ _ => by unfold mxP; rw [if_neg (by omega)]), hb3⟩
  case round =>
    clear hK3 hR3 hT3 hb3
    obtain ⟨c, hc, rfl, hK, hR, hT, hB⟩ := hrel
    by_cases hlt : c < 4
    · have i1 : (c : Int) < 4 := by omega
      go_wp2_with fail
      obtain ⟨wo, rfl⟩ : ∃ wo : World, wo = wr := ⟨_, rfl⟩
      go_loopw [5] (fun i wr => ∃ r : Nat, r ≤ 4 ∧ i = .int .i64 r ∧ Ar wr w.heap.size 16 f ∧ Ar wr (w.heap.size + 1) 16 (fun _ => 0) ∧ Ar wr gT 16 (mxP f c r) ∧ Below w.heap.size w wr) (fun i _ => 4 - (intOf i).toNat)
      case atStart => exact ⟨0, Nat.zero_le _, rfl, hK, hR, hT, hB⟩
      case round =>
        clear hK hR hT hB
        obtain ⟨r, hr, rfl, hK, hR, hT, hB⟩ := hrel
        by_cases hlr : r < 4
        · have i2 : (r : Int) < 4 := by omega
          obtain ⟨r1, hr1⟩ : ∃ r1 : Nat, r1 = (r + 1) % 4 := ⟨_, rfl⟩
          obtain ⟨c0, _⟩ := hK (r * 4 + c) (by omega)
          obtain ⟨c1, _⟩ := hK (r1 * 4 + c) (by omega)
          have l0 := HF.out (r * 4 + c) (by omega)
          have l1 := HF.out (r1 * 4 + c) (by omega)
          have hgl := cell_lt c0
          obtain ⟨x0, hx0⟩ : ∃ x0 : Nat, x0 = f (r * 4 + c) := ⟨_, rfl⟩
          obtain ⟨x1, hx1⟩ : ∃ x1 : Nat, x1 = f (r1 * 4 + c) := ⟨_, rfl⟩
          rw [← hx0] at c0 l0
          rw [← hx1] at c1 l1
          have hxx : bits BinOp.xor IntKind.u8 ((mul 2 x0 : Nat) : Int) ((mul 3 x1 : Nat) : Int) = ((mul 2 x0 ^^^ mul 3 x1 : Nat) : Int) := xor_n8 _ _ (mul_lt _ _ (by omega)) (mul_lt _ _ (by omega))
          have HX0 := Lib.hid hx0
          have HX1 := Lib.hid hx1
          have HR1 := Lib.hid hr1
          have L0 := Lib.hid l0
          have L1 := Lib.hid l1
          obtain ⟨⟨a1, a2⟩, ⟨a3, a4⟩, a5, j1⟩ := rowf r 1 1 r1 rfl hlr (by decide) hr1
          clear hx0 hx1 hr1 l0 l1
          go_wp2_with fail
          go_region_held3 (fun W => W.cell? ⟨w.heap.size, r * 4 + c, none⟩ = some (.int .u8 (x0 : Nat)) ∧ W.cell? ⟨w.heap.size, r1 * 4 + c, none⟩ = some (.int .u8 (x1 : Nat)) ∧ Base wr W)
            (first | assumption | (exact ⟨c0, c1, (Base.refl _).drew⟩))
            (first
            | (go_at_call 29
               (with_reducible refine (refmul2 _ _ ?_).mono ?_)
               · exact L0.out
               rintro e w6 ⟨rfl, hb6⟩
               have hN := heldT (by assumption) (cell_lt (And.left (by assumption))) (cell_lt (And.left (by assumption))) hb6)
            | (go_at_call 29
               (with_reducible refine (refmul3 _ _ ?_).mono ?_)
               · exact L1.out
               rintro e w6 ⟨rfl, hb6⟩
               have hN := heldT (by assumption) (cell_lt (And.left (by assumption))) (cell_lt (And.left (by assumption))) hb6))
          have hH : Base wr w6 := (And.right (And.right (by assumption)))
          clear a1 a2 a3 a4 a5 j1 hxx
          have hK6 := hK.to (by decide) hH
          have hR6 := hR.to (by decide) hH
          have hT6 := hT.to (by decide) hH
          have hB6 := hB.trans (Below.mono hH hB.size)
          obtain ⟨wz, hwz⟩ : ∃ wz : World, wz = w6 := ⟨_, rfl⟩
          rw [← hwz] at hK6 hR6 hT6 hB6
          rw [← hwz]
          clear hwz hK hR hT hB c0 c1 hgl
          obtain ⟨p, hp⟩ : ∃ p : Nat, p = mul 2 x0 ^^^ mul 3 x1 := ⟨_, rfl⟩
          have hpl : p < 256 := by rw [hp]; exact xor_lt _ _ (mul_lt _ _ (by decide)) (mul_lt _ _ (by decide))
          rw [← hp]
          obtain ⟨r2, hr2⟩ : ∃ r2 : Nat, r2 = (r + 2) % 4 := ⟨_, rfl⟩
          obtain ⟨r3, hr3⟩ : ∃ r3 : Nat, r3 = (r + 3) % 4 := ⟨_, rfl⟩
          have o2 : r2 * 4 + c < 16 := by omega
          have o3 : r3 * 4 + c < 16 := by omega
          have o4 : r * 4 + c < 16 := by omega
          have e4 : (r * 4 + c) / 4 = r := by omega
          have e5 : (r * 4 + c) % 4 = c := by omega
          have g1 : gT ≠ w.heap.size := by omega
          have g2 : gT ≠ w.heap.size + 1 := by omega
          have g3 : w.heap.size ≤ gT := by omega
          obtain ⟨q2, _⟩ := hK6 (r2 * 4 + c) o2
          obtain ⟨q3, _⟩ := hK6 (r3 * 4 + c) o3
          obtain ⟨q4, f4⟩ := hT6 (r * 4 + c) o4
          have l2 := HF.out (r2 * 4 + c) o2
          have l3 := HF.out (r3 * 4 + c) o3
          have hz9 : (p ^^^ f (r2 * 4 + c)) ^^^ f (r3 * 4 + c) = mxG f (r * 4 + c) := by
            unfold mxG
            rw [e4, e5, hp, HX0.out, HX1.out, HR1.out, hr2, hr3]
          have y2 : bits BinOp.xor IntKind.u8 ((p : Nat) : Int) ((f (r2 * 4 + c) : Nat) : Int) = ((p ^^^ f (r2 * 4 + c) : Nat) : Int) := xor_n8 _ _ hpl l2
          have y3 : bits BinOp.xor IntKind.u8 ((p ^^^ f (r2 * 4 + c) : Nat) : Int) ((f (r3 * 4 + c) : Nat) : Int) = (((p ^^^ f (r2 * 4 + c)) ^^^ f (r3 * 4 + c) : Nat) : Int) := xor_n8 _ _ (xor_lt _ _ hpl l2) l3
          rw [hz9] at y3
          have hT9 := (hT6.set (j := r * 4 + c) (v := mxG f (r * 4 + c)) o4 rfl).ext (fun m hm => mxP_step f c r m hlt hlr hm)
          have hK9 := hK6.far (p := ⟨gT, r * 4 + c, none⟩) g1 (.int .u8 (mxG f (r * 4 + c) : Nat))
          have hR9 := hR6.far (p := ⟨gT, r * 4 + c, none⟩) g2 (.int .u8 (mxG f (r * 4 + c) : Nat))
          have hB9 := hB6.setCell (p := ⟨gT, r * 4 + c, none⟩) g3 (.int .u8 (mxG f (r * 4 + c) : Nat))
          have HT9 := Lib.hid hT9
          have HK9 := Lib.hid hK9
          have HR9 := Lib.hid hR9
          have HB9 := Lib.hid hB9
          obtain ⟨⟨b1, b2⟩, ⟨b3, b4⟩, b5, j2⟩ := rowf r 2 2 r2 rfl hlr (by decide) hr2
          obtain ⟨⟨d1, d2⟩, ⟨d3, d4⟩, d5, j3⟩ := rowf r 3 3 r3 rfl hlr (by decide) hr3
          clear hz9 hp hr2 hr3 hK6 hR6 hT6 hB6 hpl l2 l3 hT9 hK9 hR9 hB9 e4 e5 o2 o3 o4 g1 g2 g3
          generalize mxG f (r * 4 + c) = z9 at *
          generalize f (r2 * 4 + c) = x2 at *
          generalize f (r3 * 4 + c) = x3 at *
          generalize p ^^^ x2 = z8 at *
          go_wp2_with fail
          refine wp_region_noPanic ?_
          go_big_region
          refine NoPanic.normal ?_
          obtain ⟨⟨a1, a2⟩, _⟩ := rowf r 1 1 _ rfl hlr (by decide) rfl
          go_wp2_with fail
          go_roundw
          case rel => clear a1 a2 b1 b2 b3 b4 b5 d1 d2 d3 d4 d5; exact ⟨r + 1, by omega, by go_num, HK9.out.drew, HR9.out.drew, HT9.out.drew, HB9.out.drew⟩
          case measure => clear a1 a2 b1 b2 b3 b4 b5 d1 d2 d3 d4 d5; simp [intOf]; omega
        · obtain rfl : r = 4 := by omega
          have hT2 := hT.ext (fun m hm => mxP_next f c m hm)
          clear hT
          go_wp2_with fail
          go_roundw
          case rel => exact ⟨c + 1, by omega, by go_num, hK, hR, hT2, hB⟩
          case measure => simp [intOf]; omega
    · obtain rfl : c = 4 := by omega
      have hT2 := hT.ext (f' := tr (miF (tr f))) (fun j hj => by unfold mxP; rw [if_pos (by omega)]; exact mxG_tr f HF.out j hj)
      clear hT
      go_wp2_with (first
        | (refine wpList_load_ar rfl _ _ rfl _ _ _ rfl hT2 Tryd.arrG (sizeG _) ?_)
        | (refine wpList_store_ar rfl _ _ _ rfl _ _ _ (tr (miF (tr f))) rfl rfl hR (sizeG _) ?_; intro w8 hA8 hb8 _ _))
      refine bodyPost_ret_ar rfl rfl hA8 Tryd.arrG (sizeG _) rfl ⟨rfl, ?_⟩
      exact hB.trans (hb8.mono (by omega))
end Go.Proofs.YtghcpfcomhfppaaDoor
