/-
  The walks of the laws SboxBack, SboxWords and SboxFixed of layer 4: for all bytes, and every word, they return true, and write nothing that was there.
-/
import Derived.Test.YtcnhindhoncpbaaDoorSbk
import Derived.Test.YtcnhindhoncpbaaDoorSbf
import Derived.Test.YtcnhindhoncpbaaDoorSbu
namespace Go.Proofs.YtcnhindhoncpbaaDoor
open Go.RowKit
set_option linter.unusedVariables false
set_option maxRecDepth 100000

set_option maxHeartbeats 1600000 in
theorem sfixes (b c : Nat) (w : World) (hb : b < 256) (hc : c < 256) (h : Boxes w) :
    Calls Tryd.prog 6 #[.int .u8 b, .int .u8 c] w fun e w' => e = .returned (.bool true) ∧ Below w.heap.size w w' := by
  have hn := sb_ne b hb
  have hsl := sb_lt b
  have hal := aff_lt b hb
  have hcl := aff_lt c hc
  have hxl := xor_lt b c hb hc
  have hxa := aff_lt _ hxl
  have h1 : ((sb b : Int) != (b : Int)) = true := by simp; omega
  have h2 : ((sb b : Int) != (255 - (b : Int))) = true := by simp; omega
  have h3 : IntKind.u8.wrap (255 - (b : Int)) = 255 - (b : Int) := by rw [IntKind.wrap_u8]; omega
  have h4 : bits BinOp.xor IntKind.u8 (b : Int) (c : Int) = ((b ^^^ c : Nat) : Int) := xor_n8 b c hb hc
  have h5 : bits BinOp.xor IntKind.u8 ((aff b : Nat) : Int) ((aff c : Nat) : Int) = ((aff b ^^^ aff c : Nat) : Int) := xor_n8 _ _ hal hcl
  have h6 : bits BinOp.xor IntKind.u8 ((aff (b ^^^ c) : Nat) : Int) 99 = ((aff b ^^^ aff c : Nat) : Int) := by
    have := xor_n8 (aff (b ^^^ c)) 99 hxa (by omega)
    rw [show ((99 : Nat) : Int) = 99 from rfl] at this
    rw [this, aff_xor b c hb hc]
  clear hn
  go_enter Tryd.func6, Tryd.ntmps6
  go_wp2_with fail
  refine (sawake _ h).mono ?_
  rintro e w1 ⟨rfl, rfl⟩
  go_wp2_with fail
  refine (sfixed _ h).mono ?_
  rintro e w1 ⟨rfl, rfl⟩
  go_wp2_with fail
  refine (sboxS b _ hb h).mono ?_
  rintro e w1 ⟨rfl, rfl⟩
  go_wp2_with fail
  refine (sboxS b _ hb h).mono ?_
  rintro e w1 ⟨rfl, rfl⟩
  go_wp2_with fail
  refine (saff b _ hb).mono ?_
  rintro e w1 ⟨rfl, rfl⟩
  go_wp2_with fail
  refine (saff c _ hc).mono ?_
  rintro e w1 ⟨rfl, rfl⟩
  go_wp2_with fail
  refine (saff (b ^^^ c) _ hxl).mono ?_
  rintro e w1 ⟨rfl, rfl⟩
  go_wp2_with fail
  go_ret
  exact ⟨rfl, Below.refl _ _⟩

set_option maxHeartbeats 1600000 in
theorem sbacks (b c : Nat) (w : World) (hb : b < 256) (hc : c < 256) (h : Boxes w) :
    Calls Tryd.prog 4 #[.int .u8 b, .int .u8 c] w fun e w' => e = .returned (.bool true) ∧ Below w.heap.size w w' := by
  have hsl := sb_lt b
  have hbl := bk_lt b hb
  have e1 := Lib.hid (bk_sb b hb)
  have e2 := Lib.hid (sb_bk b hb)
  have e3 : (((sb b : Int) == (sb c : Int)) == ((b : Int) == (c : Int))) = true := by
    by_cases he : b = c
    · subst he; simp
    · have : sb b ≠ sb c := fun h => he (sb_inj b c hb hc h)
      have f1 : ((sb b : Int) == (sb c : Int)) = false := by simp; omega
      have f2 : ((b : Int) == (c : Int)) = false := by simp; omega
      rw [f1, f2]; rfl
  go_enter Tryd.func4, Tryd.ntmps4
  go_wp2_with fail
  refine (sawake _ h).mono ?_
  rintro e w1 ⟨rfl, rfl⟩
  go_wp2_with fail
  refine (sboxS b _ hb h).mono ?_
  rintro e w1 ⟨rfl, rfl⟩
  go_wp2_with fail
  refine (sback (sb b) _ hsl h).mono ?_
  rintro e w1 ⟨rfl, rfl⟩
  rw [e1.out]
  go_wp2_with fail
  refine (sback b _ hb h).mono ?_
  rintro e w1 ⟨rfl, rfl⟩
  go_wp2_with fail
  refine (sboxS (bk b) _ hbl h).mono ?_
  rintro e w1 ⟨rfl, rfl⟩
  rw [e2.out]
  go_wp2_with fail
  refine (sback b _ hb h).mono ?_
  rintro e w1 ⟨rfl, rfl⟩
  go_wp2_with fail
  refine (reftable _).mono ?_
  rintro e w2 ⟨rfl, k2⟩
  have h2 := h.keep k2
  go_wp2_with fail
  refine (refback b _ hb).mono ?_
  rintro e w3 ⟨rfl, k3⟩
  have h3 := h2.keep k3
  have k3 := k2.trans (k3.mono k2.size)
  go_wp2_with fail
  refine (sboxS b _ hb h3).mono ?_
  rintro e w1 ⟨rfl, rfl⟩
  go_wp2_with fail
  refine (sboxS c _ hc h3).mono ?_
  rintro e w1 ⟨rfl, rfl⟩
  go_wp2_with fail
  go_ret
  exact ⟨rfl, k3⟩

set_option maxHeartbeats 1600000 in
theorem swords (x : Nat) (w : World) (hx : x < 4294967296) (h : Boxes w) :
    Calls Tryd.prog 5 #[.int .u32 x] w fun e w' => e = .returned (.bool true) ∧ Below w.heap.size w w' := by
  have hz := zero256
  go_enter Tryd.func5, Tryd.ntmps5
  go_wp2_with fail
  refine (sawake _ h).mono ?_
  rintro e w1 ⟨rfl, rfl⟩
  go_wp2_with fail
  refine (reftable _).mono ?_
  rintro e w2 ⟨rfl, k2⟩
  have hs2 := k2.size
  obtain ⟨g, hg⟩ : ∃ g : Nat, w2.heap.size = g := ⟨_, rfl⟩
  have hA : Ar (w2.alloc (.cells (arL 256 fun _ => 0).toArray 23)) g 256 (fun _ => 0) := by rw [← hg]; exact Ar.new w2 256 _ _
  have k3 : Below w1.heap.size w1 (w2.alloc (.cells (arL 256 fun _ => 0).toArray 23)) := k2.alloc (by omega) _
  have hgl : w1.heap.size ≤ g := by omega
  go_upto_region 4 with (refine wpList_store_ar rfl _ _ _ rfl _ _ _ sb rfl rfl hA (size_arL _) ?_; intro w4 hA4 hb4 hs4 _)
  have k4 := k3.trans (hb4.mono hgl)
  have h4 := h.keep k4
  clear hA hb4 hs4 k3 k2 hs2 hg
  dsimp only [Act.put]
  go_wp2_with fail
  refine (sboxWord x _ hx h4).mono ?_
  rintro e w5 ⟨rfl, rfl⟩
  have hy := sbw_lt x
  have b0 := Lib.hid (sbw_byte x 0 (by omega))
  have b1 := Lib.hid (sbw_byte x 1 (by omega))
  have b2 := Lib.hid (sbw_byte x 2 (by omega))
  have b3 := Lib.hid (sbw_byte x 3 (by omega))
  generalize sbw x = y at *
  have l0 : wb x 0 < 256 := Nat.mod_lt _ (by decide)
  have l1 : wb x 1 < 256 := Nat.mod_lt _ (by decide)
  have l2 : wb x 2 < 256 := Nat.mod_lt _ (by decide)
  have l3 : wb x 3 < 256 := Nat.mod_lt _ (by decide)
  have c0 := (hA4 (wb x 0) l0).1
  have c1 := (hA4 (wb x 1) l1).1
  have c2 := (hA4 (wb x 2) l2).1
  have c3 := (hA4 (wb x 3) l3).1
  have x0 : (x : Int) / 16777216 = ((wb x 0 : Nat) : Int) := by simp only [wb]; omega
  have x1 : (x : Int) / 65536 % 256 = ((wb x 1 : Nat) : Int) := by simp only [wb]; omega
  have x2 : (x : Int) / 256 % 256 = ((wb x 2 : Nat) : Int) := by simp only [wb]; omega
  have x3 : (x : Int) % 256 = ((wb x 3 : Nat) : Int) := by simp only [wb]; omega
  have y0 : (y : Int) / 16777216 = ((sb (wb x 0) : Nat) : Int) := by rw [← b0.out]; simp only [wb]; omega
  have y1 : (y : Int) / 65536 % 256 = ((sb (wb x 1) : Nat) : Int) := by rw [← b1.out]; simp only [wb]; omega
  have y2 : (y : Int) / 256 % 256 = ((sb (wb x 2) : Nat) : Int) := by rw [← b2.out]; simp only [wb]; omega
  have y3 : (y : Int) % 256 = ((sb (wb x 3) : Nat) : Int) := by rw [← b3.out]; simp only [wb]; omega
  clear b0 b1 b2 b3
  generalize wb x 0 = p0 at *
  generalize wb x 1 = p1 at *
  generalize wb x 2 = p2 at *
  generalize wb x 3 = p3 at *
  have i0 : (p0 : Int) < 256 := by omega
  have i1 : (p1 : Int) < 256 := by omega
  have i2 : (p2 : Int) < 256 := by omega
  have i3 : (p3 : Int) < 256 := by omega
  clear hz hA4 h4 h
  go_wp2_with fail
  go_ret
  exact ⟨rfl, k4⟩
end Go.Proofs.YtcnhindhoncpbaaDoor
