/-
  Contract of the function in Add of package cipher, by a walk through its text; what was there stays as it was.
-/
import Derived.Test.YtghcpfcomhfppaaDoorCfa
import Derived.Test.YtghcpfcomhfppaaDoorFid
import Derived.Deep.RegionHeld3
namespace Go.Proofs.YtghcpfcomhfppaaDoor
open Go.RowKit
set_option linter.unusedVariables false
set_option maxRecDepth 10000

theorem held2 {a b : Addr} {x y : Value} {W1 W W' : World} (k : W.cell? a = some x ∧ W.cell? b = some y ∧ Base W1 W) (ha : a.block < W.heap.size) (hb : b.block < W.heap.size) (hl : Below W.heap.size W W') :
    W'.cell? a = some x ∧ W'.cell? b = some y ∧ Base W1 W' := ⟨(hl.cell ha).trans k.1, (hl.cell hb).trans k.2.1, Base.step k.2.2 hl⟩

set_option maxHeartbeats 1600000 in
theorem cadd1 (n : Nat) (f k : Nat → Nat) (g g2 : Nat) (w : World) (hn : n < 16) (hf : f n < 256) (hk : k n < 256) (hA : Ar w g 16 f) (hB : Ar w g2 16 k) :
    Calls Tryd.prog 36 #[.int .i64 (n : Int), .pointer (some ⟨g, 0, none⟩), .pointer (some ⟨g2, 0, none⟩)] w fun e w' => e = .returned (.int .u8 (adF f k n : Nat)) ∧ Below w.heap.size w w' := by
  obtain ⟨c, _⟩ := hA n hn
  obtain ⟨d, _⟩ := hB n hn
  have i1 : (n : Int) < 16 := by omega
  rw [show adF f k n = f n ^^^ k n from rfl]
  clear hA hB
  generalize f n = x at *
  generalize k n = y at *
  have hgl : g < w.heap.size := blk_lt c
  have hgl2 : g2 < w.heap.size := blk_lt d
  go_enter Tryd.func36, Tryd.ntmps36
  go_wp2_with fail
  go_region_held3 (fun W => W.cell? ⟨g, n, none⟩ = some (.int .u8 (x : Nat)) ∧ W.cell? ⟨g2, n, none⟩ = some (.int .u8 (y : Nat)) ∧ Base w W)
    (first | assumption | (exact held2 (by assumption) (blk_lt (And.left (by assumption))) (blk_lt (And.left (And.right (by assumption)))) ((Below.refl _ _).alloc (Nat.le_refl _) _)) | (exact ⟨c, d, (Base.refl _).drew⟩))
    (first
    | (go_at_call 37
       refine (fsum _ 2 2 _ _ (Sl.drew (sl_two (w := w) rfl hf hk)) (by omega)).mono ?_
       rintro e w6 ⟨rfl, rfl⟩)
    | fail)
  have hH : Base w _ := (And.right (And.right (by assumption)))
  go_wp2_with fail
  go_ret
  exact ⟨fret_of (by rw [sum_two _ _ hf hk]), hH⟩
end Go.Proofs.YtghcpfcomhfppaaDoor
