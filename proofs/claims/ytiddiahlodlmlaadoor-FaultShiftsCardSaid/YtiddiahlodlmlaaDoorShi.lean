/-
  The walk of the law FaultShifts.
-/
import Derived.Test.YtiddiahlodlmlaaDoorBox
namespace Go.Proofs.YtiddiahlodlmlaaDoor
open Go.RowKit Go.Extern.Stop Go.Stop Go.Extern Go.Shelf
set_option linter.unusedVariables false
set_option maxRecDepth 100000

set_option maxHeartbeats 4000000 in
theorem shifts_no (nl f : Bool) (A : Option Addr) (n c : Nat) (cd a m : Int) (l : List ByteArray) (w : World) (g : Gl w) (hs : Ss w w.heap.size A n l) (hn : n ≤ 9223372036854775807) (hfew : fewB l a = false) :
    Calls Tryd.prog 4 #[.agg #[.bool nl, .slice A n c, .int .i64 cd, .int .i64 a, .bool f], .int .i32 m] w fun e w' => e = .returned (.bool true) ∧ Below w.heap.size w w' := by
  have hb0 : Below w.heap.size w (w.alloc (.cells #[.bool nl, .slice A n c, .int .i64 cd, .int .i64 a, .bool f] 24)) := (Below.refl _ _).alloc (Nat.le_refl _) _
  have g0 := g.to hb0
  have x0 := Bx.new nl f A n c cd a w
  have s0 := hs.to hb0
  have Hfew := Lib.hid hfew
  clear hfew hs g
  go_enter Tryd.func4, Tryd.ntmps4
  go_wp2_with fail
  refine (awake _ g0).mono ?_
  rintro e w1 ⟨rfl, hb1⟩
  have g1 := g0.to hb1
  obtain ⟨c0, c1, c2, c3, c4⟩ := x0.below hb1
  have s1 := s0.to hb1
  go_wp2_with fail
  refine (few nl A n c cd a f l _ s1 hn).mono ?_
  rintro e w2 ⟨rfl, hb2⟩
  rw [Hfew.out]
  have g2 := g1.to hb2
  go_wp2_with fail
  refine (awake _ g2).mono ?_
  rintro e w3 ⟨rfl, hb3⟩
  go_wp2_with fail
  go_ret
  exact ⟨rfl, hb0.trans ((hb1.trans ((hb2.trans (hb3.mono hb2.size)).mono hb1.size)).mono hb0.size)⟩
/-! ### nil -/
set_option maxHeartbeats 4000000 in
theorem shifts_nil (f : Bool) (A : Option Addr) (n c : Nat) (cd a m : Int) (l : List ByteArray) (w : World) (g : Gl w) (hs : Ss w w.heap.size A n l) (hn : n ≤ 9223372036854775807) (hfew : fewB l a = true) :
    Calls Tryd.prog 4 #[.agg #[.bool true, .slice A n c, .int .i64 cd, .int .i64 a, .bool f], .int .i32 m] w fun e w' => e = .returned (.bool true) ∧ Below w.heap.size w w' := by
  have hb0 : Below w.heap.size w (w.alloc (.cells #[.bool true, .slice A n c, .int .i64 cd, .int .i64 a, .bool f] 24)) := (Below.refl _ _).alloc (Nat.le_refl _) _
  have g0 := g.to hb0
  have x0 := Bx.new true f A n c cd a w
  have s0 := hs.to hb0
  have Hfew := Lib.hid hfew
  clear hfew hs g
  go_enter Tryd.func4, Tryd.ntmps4
  go_wp2_with fail
  refine (awake _ g0).mono ?_
  rintro e w1 ⟨rfl, hb1⟩
  have g1 := g0.to hb1
  have x1 := x0.below hb1
  have s1 := s0.to hb1
  obtain ⟨c0, c1, c2, c3, c4⟩ := x1
  go_wp2_with fail
  refine (few true A n c cd a f l _ s1 hn).mono ?_
  rintro e w2 ⟨rfl, hb2⟩
  rw [Hfew.out]
  have g2 := g1.to hb2
  have x2 := Bx.below ⟨c0, c1, c2, c3, c4⟩ hb2
  have s2 := s1.to hb2
  clear c0 c1 c2 c3 c4
  obtain ⟨c0, c1, c2, c3, c4⟩ := x2
  go_wp2_with fail
  refine (build_nil A n c cd a f _).mono ?_
  rintro e w3 ⟨rfl, hb3⟩
  have g3 := g2.to hb3
  have x3 := Bx.below ⟨c0, c1, c2, c3, c4⟩ hb3
  clear c0 c1 c2 c3 c4
  obtain ⟨c0, c1, c2, c3, c4⟩ := x3
  go_wp2_with fail
  refine (shift_nil _ _ g3).mono ?_
  rintro e w4 ⟨rfl, hb4⟩
  have g4 := g3.to hb4
  have x4 := Bx.below ⟨c0, c1, c2, c3, c4⟩ hb4
  clear c0 c1 c2 c3 c4
  obtain ⟨c0, c1, c2, c3, c4⟩ := x4
  go_wp2_with fail
  go_ret
  exact ⟨rfl, hb0.trans (Below.mono (hb1.trans (Below.mono (hb2.trans (Below.mono (hb3.trans (Below.mono (hb4) hb3.size)) hb2.size)) hb1.size)) hb0.size)⟩
set_option maxHeartbeats 4000000 in
theorem shifts_true (A : Option Addr) (n c : Nat) (cd a m : Int) (l : List ByteArray) (w : World) (g : Gl w) (hs : Ss w w.heap.size A n l) (hn : n ≤ 9223372036854775807) (hfew : fewB l a = true) (hm : -2147483648 ≤ m ∧ m ≤ 2147483647) :
    Calls Tryd.prog 4 #[.agg #[.bool false, .slice A n c, .int .i64 cd, .int .i64 a, .bool true], .int .i32 m] w fun e w' => e = .returned (.bool true) ∧ Below w.heap.size w w' := by
  have hb0 : Below w.heap.size w (w.alloc (.cells #[.bool false, .slice A n c, .int .i64 cd, .int .i64 a, .bool true] 24)) := (Below.refl _ _).alloc (Nat.le_refl _) _
  have g0 := g.to hb0
  have x0 := Bx.new false true A n c cd a w
  have s0 := hs.to hb0
  obtain ⟨hsm, hn20, ha0, ha1⟩ := few_facts hfew hs.1
  have hcod := mkE_cod l (baseE cd a true)
  rw [(base_cod cd a true).1, (base_cod cd a true).2] at hcod
  have Hcod := Lib.hid hcod
  have hr : -9223372036854775808 ≤ (a + m) ∧ (a + m) ≤ 9223372036854775807 := by omega
  have Hr := Lib.hid hr
  have hcm : m + a = a + m := Int.add_comm _ _
  have Hcm := Lib.hid hcm
  have hwr : IntKind.i64.wrap m = m := IntWalk.i64_in _ (by omega)
  have hwr2 := w64 m (by omega) (by omega)
  have hwr3 : IntKind.i64.wrap (a + m) = (a + m) := IntWalk.i64_in _ (by omega)
  have hwr4 := w64 (a + m) (by omega) (by omega)
  have Hfew := Lib.hid hfew
  clear hfew hs g hcod hsm hr ha0 ha1 hm hn20 hcm
  have hne := nilEq
  have hnq := nilNeq
  go_enter Tryd.func4, Tryd.ntmps4
  go_wp2_with fail
  refine (awake _ g0).mono ?_
  rintro e w1 ⟨rfl, hb1⟩
  have g1 := g0.to hb1
  have x1 := x0.below hb1
  have s1 := s0.to hb1
  obtain ⟨c0, c1, c2, c3, c4⟩ := x1
  go_wp2_with fail
  refine (few false A n c cd a true l _ s1 hn).mono ?_
  rintro e w2 ⟨rfl, hb2⟩
  rw [Hfew.out]
  have g2 := g1.to hb2
  have x2 := Bx.below ⟨c0, c1, c2, c3, c4⟩ hb2
  have s2 := s1.to hb2
  clear c0 c1 c2 c3 c4
  obtain ⟨c0, c1, c2, c3, c4⟩ := x2
  go_wp2_with fail
  refine (build A n c cd a true l _ s2 hn).mono ?_
  rintro e w3 ⟨rfl, hb3⟩
  have g3 := g2.to hb3
  have x3 := Bx.below ⟨c0, c1, c2, c3, c4⟩ hb3
  clear c0 c1 c2 c3 c4
  obtain ⟨c0, c1, c2, c3, c4⟩ := x3
  go_wp2_with fail
  refine (shift_to (mkE l (baseE cd a true)) cd m a (a + m) _ g3 Hcod.out.1 (by rw [Hcod.out.2]; rfl) (by omega) Hr.out).mono ?_
  rintro e w4 ⟨rfl, hb4⟩
  have g4 := g3.to hb4
  have x4 := Bx.below ⟨c0, c1, c2, c3, c4⟩ hb4
  clear c0 c1 c2 c3 c4
  obtain ⟨c0, c1, c2, c3, c4⟩ := x4
  go_wp2_with fail
  refine (code (.fault cd (a + m)) _ g4.err).mono ?_
  rintro e w5 ⟨rfl, hb5⟩
  rw [show codRes (Er.fault cd (a + m)).cod = .tuple #[.int .i64 cd, .bool true] from rfl]
  have g5 := g4.to hb5
  have x5 := Bx.below ⟨c0, c1, c2, c3, c4⟩ hb5
  clear c0 c1 c2 c3 c4
  obtain ⟨c0, c1, c2, c3, c4⟩ := x5
  go_wp2_with fail
  refine (offs (.fault cd (a + m)) _ g5.err).mono ?_
  rintro e w6 ⟨rfl, hb6⟩
  rw [show codRes (Er.fault cd (a + m)).off = .tuple #[.int .i64 (a + m), .bool true] from rfl]
  have g6 := g5.to hb6
  have x6 := Bx.below ⟨c0, c1, c2, c3, c4⟩ hb6
  clear c0 c1 c2 c3 c4
  obtain ⟨c0, c1, c2, c3, c4⟩ := x6
  have hcm := Hcm.out
  go_wp2_with fail
  go_ret
  exact ⟨rfl, hb0.trans (Below.mono (hb1.trans (Below.mono (hb2.trans (Below.mono (hb3.trans (Below.mono (hb4.trans (Below.mono (hb5.trans (Below.mono (hb6) hb5.size)) hb4.size)) hb3.size)) hb2.size)) hb1.size)) hb0.size)⟩
set_option maxHeartbeats 4000000 in
theorem shifts_false (A : Option Addr) (n c : Nat) (cd a m : Int) (l : List ByteArray) (w : World) (g : Gl w) (hs : Ss w w.heap.size A n l) (hn : n ≤ 9223372036854775807) (hfew : fewB l a = true) (hm : -2147483648 ≤ m ∧ m ≤ 2147483647) :
    Calls Tryd.prog 4 #[.agg #[.bool false, .slice A n c, .int .i64 cd, .int .i64 a, .bool false], .int .i32 m] w fun e w' => e = .returned (.bool true) ∧ Below w.heap.size w w' := by
  have hb0 : Below w.heap.size w (w.alloc (.cells #[.bool false, .slice A n c, .int .i64 cd, .int .i64 a, .bool false] 24)) := (Below.refl _ _).alloc (Nat.le_refl _) _
  have g0 := g.to hb0
  have x0 := Bx.new false false A n c cd a w
  have s0 := hs.to hb0
  obtain ⟨hsm, hn20, ha0, ha1⟩ := few_facts hfew hs.1
  have hcod := mkE_cod l (baseE cd a false)
  rw [(base_cod cd a false).1, (base_cod cd a false).2] at hcod
  have Hcod := Lib.hid hcod
  have hr : -9223372036854775808 ≤ m ∧ m ≤ 9223372036854775807 := by omega
  have Hr := Lib.hid hr
  have hwr : IntKind.i64.wrap m = m := IntWalk.i64_in _ (by omega)
  have hwr2 := w64 m (by omega) (by omega)
  have hwr3 : IntKind.i64.wrap m = m := IntWalk.i64_in _ (by omega)
  have hwr4 := w64 m (by omega) (by omega)
  have Hfew := Lib.hid hfew
  clear hfew hs g hcod hsm hr ha0 ha1 hm hn20
  have hne := nilEq
  have hnq := nilNeq
  go_enter Tryd.func4, Tryd.ntmps4
  go_wp2_with fail
  refine (awake _ g0).mono ?_
  rintro e w1 ⟨rfl, hb1⟩
  have g1 := g0.to hb1
  have x1 := x0.below hb1
  have s1 := s0.to hb1
  obtain ⟨c0, c1, c2, c3, c4⟩ := x1
  go_wp2_with fail
  refine (few false A n c cd a false l _ s1 hn).mono ?_
  rintro e w2 ⟨rfl, hb2⟩
  rw [Hfew.out]
  have g2 := g1.to hb2
  have x2 := Bx.below ⟨c0, c1, c2, c3, c4⟩ hb2
  have s2 := s1.to hb2
  clear c0 c1 c2 c3 c4
  obtain ⟨c0, c1, c2, c3, c4⟩ := x2
  go_wp2_with fail
  refine (build A n c cd a false l _ s2 hn).mono ?_
  rintro e w3 ⟨rfl, hb3⟩
  have g3 := g2.to hb3
  have x3 := Bx.below ⟨c0, c1, c2, c3, c4⟩ hb3
  clear c0 c1 c2 c3 c4
  obtain ⟨c0, c1, c2, c3, c4⟩ := x3
  go_wp2_with fail
  refine (shift_to (mkE l (baseE cd a false)) cd m 0 m _ g3 Hcod.out.1 (by rw [Hcod.out.2]; rfl) (by omega) Hr.out).mono ?_
  rintro e w4 ⟨rfl, hb4⟩
  have g4 := g3.to hb4
  have x4 := Bx.below ⟨c0, c1, c2, c3, c4⟩ hb4
  clear c0 c1 c2 c3 c4
  obtain ⟨c0, c1, c2, c3, c4⟩ := x4
  go_wp2_with fail
  refine (code (.fault cd m) _ g4.err).mono ?_
  rintro e w5 ⟨rfl, hb5⟩
  rw [show codRes (Er.fault cd m).cod = .tuple #[.int .i64 cd, .bool true] from rfl]
  have g5 := g4.to hb5
  have x5 := Bx.below ⟨c0, c1, c2, c3, c4⟩ hb5
  clear c0 c1 c2 c3 c4
  obtain ⟨c0, c1, c2, c3, c4⟩ := x5
  go_wp2_with fail
  refine (offs (.fault cd m) _ g5.err).mono ?_
  rintro e w6 ⟨rfl, hb6⟩
  rw [show codRes (Er.fault cd m).off = .tuple #[.int .i64 m, .bool true] from rfl]
  have g6 := g5.to hb6
  have x6 := Bx.below ⟨c0, c1, c2, c3, c4⟩ hb6
  clear c0 c1 c2 c3 c4
  obtain ⟨c0, c1, c2, c3, c4⟩ := x6
  go_wp2_with fail
  go_ret
  exact ⟨rfl, hb0.trans (Below.mono (hb1.trans (Below.mono (hb2.trans (Below.mono (hb3.trans (Below.mono (hb4.trans (Below.mono (hb5.trans (Below.mono (hb6) hb5.size)) hb4.size)) hb3.size)) hb2.size)) hb1.size)) hb0.size)⟩
theorem shifts (nl f : Bool) (A : Option Addr) (n c : Nat) (cd a m : Int) (l : List ByteArray) (w : World) (g : Gl w) (hs : Ss w w.heap.size A n l) (hn : n ≤ 9223372036854775807) (hm : -2147483648 ≤ m ∧ m ≤ 2147483647) :
    Calls Tryd.prog 4 #[.agg #[.bool nl, .slice A n c, .int .i64 cd, .int .i64 a, .bool f], .int .i32 m] w fun e w' => e = .returned (.bool true) ∧ Below w.heap.size w w' := by
  cases hfew : fewB l a with
  | false => exact shifts_no nl f A n c cd a m l w g hs hn hfew
  | true =>
    cases nl with
    | true => exact shifts_nil f A n c cd a m l w g hs hn hfew
    | false =>
      cases f with
      | true => exact shifts_true A n c cd a m l w g hs hn hfew hm
      | false => exact shifts_false A n c cd a m l w g hs hn hfew hm
end Go.Proofs.YtiddiahlodlmlaaDoor
