/-
  Contract of field.Dot, by a walk through its text, for any two arrays of four bytes; what was there stays as it was.
-/
import Derived.Test.YtghcpfcomhfppaaDoorFie
import Derived.Deep.RegionHeld3
namespace Go.Proofs.YtghcpfcomhfppaaDoor
open Go.RowKit
set_option linter.unusedVariables false
set_option maxRecDepth 10000

/-- An array of four bytes as a value. -/
def arr (a b c d : Nat) : Value := .agg #[.int .u8 (a : Int), .int .u8 (b : Int), .int .u8 (c : Int), .int .u8 (d : Int)]
/-- Its cells, in block g. -/
def C4 (g a b c d : Nat) (W : World) : Prop := W.cell? ⟨g, 0, none⟩ = some (.int .u8 (a : Int)) ∧ W.cell? ⟨g, 1, none⟩ = some (.int .u8 (b : Int)) ∧ W.cell? ⟨g, 2, none⟩ = some (.int .u8 (c : Int)) ∧ W.cell? ⟨g, 3, none⟩ = some (.int .u8 (d : Int))
theorem C4.to {g a b c d : Nat} {W W' : World} (h : C4 g a b c d W) (hg : g < W.heap.size) (hb : Below W.heap.size W W') : C4 g a b c d W' :=
  ⟨(hb.cell (p := ⟨g, 0, none⟩) hg).trans h.1, (hb.cell (p := ⟨g, 1, none⟩) hg).trans h.2.1, (hb.cell (p := ⟨g, 2, none⟩) hg).trans h.2.2.1, (hb.cell (p := ⟨g, 3, none⟩) hg).trans h.2.2.2⟩

theorem blk_lt {w : World} {b i : Nat} {v : Value} (h : w.cell? ⟨b, i, none⟩ = some v) : b < w.heap.size := by
  rcases Nat.lt_or_ge b w.heap.size with h1 | h1
  · exact h1
  · simp [World.cell?, Array.getElem?_eq_none h1] at h
theorem C4.two (a0 a1 a2 a3 b0 b1 b2 b3 : Nat) (w : World) : ∃ w2 : World, w2 = (w.alloc (.cells #[.int .u8 (a0 : Int), .int .u8 (a1 : Int), .int .u8 (a2 : Int), .int .u8 (a3 : Int)] 32)).alloc (.cells #[.int .u8 (b0 : Int), .int .u8 (b1 : Int), .int .u8 (b2 : Int), .int .u8 (b3 : Int)] 32) ∧
    C4 w.heap.size a0 a1 a2 a3 w2 ∧ C4 (w.heap.size + 1) b0 b1 b2 b3 w2 ∧ Below w.heap.size w w2 := by
  refine ⟨_, rfl, ⟨by simp, by simp, by simp, by simp⟩, ⟨by simp, by simp, by simp, by simp⟩, ?_⟩
  exact ((Below.refl _ _).alloc (Nat.le_refl _) _).alloc (by simp) _
theorem held8 {g h a b c d a' b' c' d' : Nat} {W1 W w3 : World}
    (k : W.cell? ⟨g, 0, none⟩ = some (.int .u8 (a : Int)) ∧ W.cell? ⟨g, 1, none⟩ = some (.int .u8 (b : Int)) ∧ W.cell? ⟨g, 2, none⟩ = some (.int .u8 (c : Int)) ∧ W.cell? ⟨g, 3, none⟩ = some (.int .u8 (d : Int)) ∧
      W.cell? ⟨h, 0, none⟩ = some (.int .u8 (a' : Int)) ∧ W.cell? ⟨h, 1, none⟩ = some (.int .u8 (b' : Int)) ∧ W.cell? ⟨h, 2, none⟩ = some (.int .u8 (c' : Int)) ∧ W.cell? ⟨h, 3, none⟩ = some (.int .u8 (d' : Int)) ∧ Base W1 W)
    (hb : Below W.heap.size W w3) :
    w3.cell? ⟨g, 0, none⟩ = some (.int .u8 (a : Int)) ∧ w3.cell? ⟨g, 1, none⟩ = some (.int .u8 (b : Int)) ∧ w3.cell? ⟨g, 2, none⟩ = some (.int .u8 (c : Int)) ∧ w3.cell? ⟨g, 3, none⟩ = some (.int .u8 (d : Int)) ∧
      w3.cell? ⟨h, 0, none⟩ = some (.int .u8 (a' : Int)) ∧ w3.cell? ⟨h, 1, none⟩ = some (.int .u8 (b' : Int)) ∧ w3.cell? ⟨h, 2, none⟩ = some (.int .u8 (c' : Int)) ∧ w3.cell? ⟨h, 3, none⟩ = some (.int .u8 (d' : Int)) ∧ Base W1 w3 := by
  obtain ⟨k0, k1, k2, k3, k4, k5, k6, k7, k8⟩ := k
  exact ⟨(hb.cell (p := ⟨g, 0, none⟩) (blk_lt k0)).trans k0, (hb.cell (p := ⟨g, 1, none⟩) (blk_lt k1)).trans k1, (hb.cell (p := ⟨g, 2, none⟩) (blk_lt k2)).trans k2, (hb.cell (p := ⟨g, 3, none⟩) (blk_lt k3)).trans k3,
    (hb.cell (p := ⟨h, 0, none⟩) (blk_lt k4)).trans k4, (hb.cell (p := ⟨h, 1, none⟩) (blk_lt k5)).trans k5, (hb.cell (p := ⟨h, 2, none⟩) (blk_lt k6)).trans k6, (hb.cell (p := ⟨h, 3, none⟩) (blk_lt k7)).trans k7, Base.step k8 hb⟩
theorem sl_four {w : World} {g x y z u : Nat} (hg : g = w.heap.size) (hx : x < 256) (hy : y < 256) (hz : z < 256) (hu : u < 256) :
    Sl (w.alloc (.cells #[.int .u8 (x : Int), .int .u8 (y : Int), .int .u8 (z : Int), .int .u8 (u : Int)] 5)) (w.alloc (.cells #[.int .u8 (x : Int), .int .u8 (y : Int), .int .u8 (z : Int), .int .u8 (u : Int)] 5)).heap.size (some ⟨g, 0, none⟩) 4 [UInt8.ofNat x, UInt8.ofNat y, UInt8.ofNat z, UInt8.ofNat u] := by
  subst hg
  refine ⟨rfl, fun _ => ⟨w.heap.size, 0, rfl, by simp, fun j v hv => ?_⟩⟩
  rw [World.cell?_alloc_at _ _ _ _ rfl]
  rcases j with _ | _ | _ | _ | j
  · simp at hv; subst hv; rw [b8_ofNat _ hx]; rfl
  · simp at hv; subst hv; rw [b8_ofNat _ hy]; rfl
  · simp at hv; subst hv; rw [b8_ofNat _ hz]; rfl
  · simp at hv; subst hv; rw [b8_ofNat _ hu]; rfl
  · simp at hv
theorem sum_four (x y z u : Nat) (hx : x < 256) (hy : y < 256) (hz : z < 256) (hu : u < 256) : sumN [UInt8.ofNat x, UInt8.ofNat y, UInt8.ofNat z, UInt8.ofNat u] = ((x ^^^ y) ^^^ z) ^^^ u := by
  simp [sumN, b8_nat x hx, b8_nat y hy, b8_nat z hz, b8_nat u hu]

set_option maxHeartbeats 4000000 in
theorem fdot (a0 a1 a2 a3 b0 b1 b2 b3 : Nat) (w : World) (ha0 : a0 < 256) (ha1 : a1 < 256) (ha2 : a2 < 256) (ha3 : a3 < 256) (hb0 : b0 < 256) (hb1 : b1 < 256) (hb2 : b2 < 256) (hb3 : b3 < 256) :
    Calls Tryd.prog 44 #[.agg #[.int .u8 (a0 : Int), .int .u8 (a1 : Int), .int .u8 (a2 : Int), .int .u8 (a3 : Int)], .agg #[.int .u8 (b0 : Int), .int .u8 (b1 : Int), .int .u8 (b2 : Int), .int .u8 (b3 : Int)]] w fun e w' =>
      e = .returned (.int .u8 (((mul a0 b0 ^^^ mul a1 b1) ^^^ mul a2 b2) ^^^ mul a3 b3 : Nat)) ∧ Below w.heap.size w w' := by
  have hm0 := mul_lt a0 b0 ha0
  have hm1 := mul_lt a1 b1 ha1
  have hm2 := mul_lt a2 b2 ha2
  have hm3 := mul_lt a3 b3 ha3
  obtain ⟨w2, hw2, ⟨c0, c1, c2, c3⟩, ⟨d0, d1, d2, d3⟩, hbel⟩ := C4.two a0 a1 a2 a3 b0 b1 b2 b3 w
  go_enter Tryd.func44, Tryd.ntmps44
  go_wp2_with fail
  rw [← hw2]
  clear hw2
  go_region_held3 (fun W => W.cell? ⟨w.heap.size, 0, none⟩ = some (.int .u8 (a0 : Int)) ∧ W.cell? ⟨w.heap.size, 1, none⟩ = some (.int .u8 (a1 : Int)) ∧ W.cell? ⟨w.heap.size, 2, none⟩ = some (.int .u8 (a2 : Int)) ∧ W.cell? ⟨w.heap.size, 3, none⟩ = some (.int .u8 (a3 : Int)) ∧
      W.cell? ⟨w.heap.size + 1, 0, none⟩ = some (.int .u8 (b0 : Int)) ∧ W.cell? ⟨w.heap.size + 1, 1, none⟩ = some (.int .u8 (b1 : Int)) ∧ W.cell? ⟨w.heap.size + 1, 2, none⟩ = some (.int .u8 (b2 : Int)) ∧ W.cell? ⟨w.heap.size + 1, 3, none⟩ = some (.int .u8 (b3 : Int)) ∧ Base w2 W)
    (first | assumption | (exact held8 (by assumption) ((Below.refl _ _).alloc (Nat.le_refl _) _)) | (refine ⟨?_, ?_, ?_, ?_, ?_, ?_, ?_, ?_, ?_⟩ <;> first | assumption | exact (Base.refl _).drew | exact c0 | exact c1 | exact c2 | exact c3 | exact d0 | exact d1 | exact d2 | exact d3))
    (first
    | (go_at_call 49
       refine (fmul _ _ _ (by assumption) (by assumption)).mono ?_
       rintro e w6 ⟨rfl, hb6⟩
       have hN := held8 (by assumption) hb6)
    | (go_at_call 37
       refine (fsum _ 4 4 _ _ (sl_four rfl hm0 hm1 hm2 hm3) (by omega)).mono ?_
       rintro e w6 ⟨rfl, rfl⟩))
  have hH : Base w2 _ := (And.right (And.right (And.right (And.right (And.right (And.right (And.right (And.right (by assumption)))))))))
  go_wp2_with fail
  go_ret
  exact ⟨fret_of (by rw [sum_four _ _ _ _ hm0 hm1 hm2 hm3]), hbel.trans (Below.mono hH hbel.size)⟩
end Go.Proofs.YtghcpfcomhfppaaDoor
