/-
  The check of the documentation's examples of layer 2 returns true, and writes nothing that was there. Condition: the package-level variables that are read hold what the program's text lays.
-/
import Derived.Test.YtiddiahlodlmlaaDoorTold
namespace Go.Proofs.YtiddiahlodlmlaaDoor
open Go.RowKit Go.Extern.Stop Go.Stop Go.Extern Go.Shelf
set_option linter.unusedVariables false
set_option maxRecDepth 20000

def sesE : Er := .wrap ⟨#[115, 101, 115, 115, 105, 111, 110]⟩ (.fault 3 8)
theorem ses_text : sesE.text = ⟨#[115, 101, 115, 115, 105, 111, 110, 58, 32, 101, 114, 114, 111, 114, 32, 51]⟩ := by
  have h : itoaB 3 = ⟨#[51]⟩ := itoa_one 3 (by omega)
  show ⟨#[115, 101, 115, 115, 105, 111, 110]⟩ ++ sepB ++ (errB ++ itoaB 3) = _
  rw [h]; rfl
theorem told_text : nameOf 3 ++ ⟨#[32]⟩ ++ itoaB 8 = ⟨#[97, 117, 116, 104, 32, 56]⟩ := by
  have h : itoaB 8 = ⟨#[56]⟩ := itoa_one 8 (by omega)
  have h2 : nameOf 3 = ⟨#[97, 117, 116, 104]⟩ := by decide +kernel
  rw [h, h2]; rfl
set_option maxHeartbeats 4000000 in
theorem awake (w : World) (g : Gl w) : Calls Tryd.prog 7 #[] w fun e w' => e = .returned (.bool true) ∧ Below w.heap.size w w' := by
  have hne := nilEq
  have hm := sesE.method
  have hen := sesE.enters
  go_enter Tryd.func7, Tryd.ntmps7
  go_wp2_with fail
  refine (new_ 3 8 _).mono ?_
  rintro e w' ⟨rfl, rfl⟩
  go_wp2_with fail
  refine (in_ ⟨#[115, 101, 115, 115, 105, 111, 110]⟩ 50 (.agg #[.int .i64 3, .int .i64 8]) _).mono ?_
  rintro e w' ⟨rfl, rfl⟩
  go_wp2_with fail
  refine (code_nil _ g.err).mono ?_
  rintro e w1 ⟨rfl, hb1⟩
  rw [codRes_none]
  have g1 := g.to hb1
  go_wp2_with fail
  refine (text sesE _ g1 (show (-9223372036854775808 : Int) ≤ 3 ∧ (3 : Int) ≤ 9223372036854775807 by decide) (by rw [ses_text]; decide)).mono ?_
  rintro e w2 ⟨rfl, hb2⟩
  rw [ses_text]
  have g2 := g1.to hb2
  go_wp2_with fail
  refine (told_fault sesE 3 8 _ g2 rfl rfl (by decide) (by decide)).mono ?_
  rintro e w3 ⟨rfl, hb3⟩
  rw [told_text]
  have g3 := g2.to hb3
  go_wp2_with fail
  refine (in_nil _ _).mono ?_
  rintro e w' ⟨rfl, rfl⟩
  go_wp2_with fail
  refine (shift_nil _ _ g3).mono ?_
  rintro e w4 ⟨rfl, hb4⟩
  have g4 := g3.to hb4
  go_wp2_with fail
  refine (name 12 _ g4).mono ?_
  rintro e w' ⟨rfl, rfl⟩
  rw [show nameOf 12 = ⟨#[101, 109, 112, 116, 121]⟩ by decide +kernel]
  go_wp2_with fail
  refine (told_nil _).mono ?_
  rintro e w5 ⟨rfl, hb5⟩
  go_wp2_with fail
  go_ret
  have z1 := hb1.size
  have z2 := hb2.size
  have z3 := hb3.size
  have z4 := hb4.size
  exact ⟨rfl, hb1.trans ((hb2.trans ((hb3.trans ((hb4.trans (hb5.mono z4)).mono z3)).mono z2)).mono z1)⟩
end Go.Proofs.YtiddiahlodlmlaaDoor
