/-
  Contracts of the columns that are made of one byte, by walks through their texts; what was there stays as it was.
-/
import Derived.Test.YtblhfmlgpldaeaaDoorFre
import Derived.Test.YtblhfmlgpldaeaaDoorGfi
import Derived.Test.YtblhfmlgpldaeaaDoorGsb
namespace Go.Proofs.YtblhfmlgpldaeaaDoor
open Go.RowKit
set_option linter.unusedVariables false
set_option maxRecDepth 100000

theorem stand_facts (a b c d : Nat) (ha : a < 256) (hb : b < 256) (hc : c < 256) (hd : d < 256) :
    bits .or .u32 (bits .or .u32 (bits .or .u32 ((a : Int) * 16777216) ((b : Int) * 65536)) ((c : Int) * 256)) (d : Int) = ((quad a b c d : Nat) : Int) := by
  have n1 : a * 16777216 ||| b * 65536 < 4294967296 := Nat.or_lt_two_pow (n := 32) (by omega) (by omega)
  have n2 : a * 16777216 ||| b * 65536 ||| c * 256 < 4294967296 := Nat.or_lt_two_pow (n := 32) n1 (by omega)
  rw [show (a : Int) * 16777216 = ((a * 16777216 : Nat) : Int) by omega, show (b : Int) * 65536 = ((b * 65536 : Nat) : Int) by omega, show (c : Int) * 256 = ((c * 256 : Nat) : Int) by omega,
    or_u32 _ _ (by omega) (by omega), or_u32 _ _ n1 (by omega), or_u32 _ _ n2 (by omega), quad_or _ _ _ _ hb hc hd]
theorem fstand (a b c d : Nat) (w : World) (ha : a < 256) (hb : b < 256) (hc : c < 256) (hd : d < 256) :
    Calls Tryd.prog 77 #[.int .u8 a, .int .u8 b, .int .u8 c, .int .u8 d] w fun e w' => e = .returned (.int .u32 (quad a b c d : Nat)) ∧ w' = w := by
  have hs := Lib.hid (stand_facts a b c d ha hb hc hd)
  go_enter Tryd.func77, Tryd.ntmps77
  go_wp2
  go_ret
  exact ⟨fret_of hs.out, rfl⟩
theorem fmixed (x : Nat) (w : World) (hx : x < 256) (h : Boxes w) :
    Calls Tryd.prog 67 #[.int .u8 x] w fun e w' => e = .returned (.int .u32 (mxd x : Nat)) ∧ w' = w := by
  have hs := Lib.hid (sboxS x w hx h)
  have hl := sb_lt x
  have hq := Lib.hid (quad_mx (sb x) hl)
  rw [show mxd x = fac 2 1 1 3 (sb x) from rfl]
  generalize sb x = s at *
  have hd := dbl_lt s hl
  have hdo := Lib.hid (fdouble s w hl)
  have hxo := xor_n8 (dbl s) s hd hl
  have hl2 := xor_lt (dbl s) s hd hl
  generalize dbl s ^^^ s = u at *
  generalize dbl s = t at *
  go_enter Tryd.func67, Tryd.ntmps67
  go_wp2_with fail
  refine hs.out.mono ?_
  rintro e w1 ⟨rfl, rfl⟩
  go_wp2_with fail
  refine hdo.out.mono ?_
  rintro e w2 ⟨rfl, rfl⟩
  go_wp2_with fail
  refine (fstand t s s u _ hd hl hl hl2).mono ?_
  rintro e w3 ⟨rfl, rfl⟩
  rw [hq.out]
  go_wp2_with fail
  go_ret
  exact ⟨rfl, rfl⟩
end Go.Proofs.YtblhfmlgpldaeaaDoor
