/-
  The walk of the law FaultWraps.
-/
import Derived.Test.YtiddiahlodlmlaaDoorBox
import Derived.Deep.RegionHeld3
namespace Go.Proofs.YtiddiahlodlmlaaDoor
open Go.RowKit Go.Extern.Stop Go.Stop Go.Extern Go.Shelf
set_option linter.unusedVariables false
set_option maxRecDepth 100000

theorem next_ne (cd : Int) (h : -9223372036854775808 ≤ cd ∧ cd ≤ 9223372036854775807) : ∃ z : Int, wrap64 (cd + 1) = z ∧ IntKind.i64.wrap (cd + 1) = z ∧ decide (cd = z) = false := by
  refine ⟨wrap64 (cd + 1), rfl, IntWalk.i64_left _, ?_⟩
  unfold wrap64
  rw [decide_eq_false_iff_not]
  omega
set_option maxHeartbeats 4000000 in
theorem wraps_no (nl f : Bool) (A : Option Addr) (n c : Nat) (cd a : Int) (l : List ByteArray) (w : World) (g : Gl w) (hs : Ss w w.heap.size A n l) (hn : n ≤ 9223372036854775807) (s : ByteArray) (hfew : fewB l a = false) :
    Calls Tryd.prog 5 #[.agg #[.bool nl, .slice A n c, .int .i64 cd, .int .i64 a, .bool f], .string s] w fun e w' => e = .returned (.bool true) ∧ Below w.heap.size w w' := by
  have hb0 : Below w.heap.size w (w.alloc (.cells #[.bool nl, .slice A n c, .int .i64 cd, .int .i64 a, .bool f] 24)) := (Below.refl _ _).alloc (Nat.le_refl _) _
  have g0 := g.to hb0
  have x0 := Bx.new nl f A n c cd a w
  have s0 := hs.to hb0
  have Hfew := Lib.hid hfew
  clear hfew hs g
  go_enter Tryd.func5, Tryd.ntmps5
  go_wp2_with fail
  refine (awake _ g0).mono ?_
  rintro e w1 ⟨rfl, hb1⟩
  have g1 := g0.to hb1
  have x1 := x0.below hb1
  have s1 := s0.to hb1
  obtain ⟨c0, c1, c2, c3, c4⟩ := x1
  go_wp2_with fail
  refine (few nl A n c cd a f l _ s1 hn).mono ?_
  rintro e w2 ⟨rfl, hb2⟩
  rw [Hfew.out]
  have g2 := g1.to hb2
  go_wp2_with fail
  refine (awake _ g2).mono ?_
  rintro e w3 ⟨rfl, hb3⟩
  go_wp2_with fail
  go_ret
  exact ⟨rfl, hb0.trans (Below.mono (hb1.trans (Below.mono (hb2.trans (Below.mono (hb3) hb2.size)) hb1.size)) hb0.size)⟩
set_option maxHeartbeats 4000000 in
theorem wraps_nil (f : Bool) (A : Option Addr) (n c : Nat) (cd a : Int) (l : List ByteArray) (w : World) (g : Gl w) (hs : Ss w w.heap.size A n l) (hn : n ≤ 9223372036854775807) (s : ByteArray) (hfew : fewB l a = true) :
    Calls Tryd.prog 5 #[.agg #[.bool true, .slice A n c, .int .i64 cd, .int .i64 a, .bool f], .string s] w fun e w' => e = .returned (.bool true) ∧ Below w.heap.size w w' := by
  have hb0 : Below w.heap.size w (w.alloc (.cells #[.bool true, .slice A n c, .int .i64 cd, .int .i64 a, .bool f] 24)) := (Below.refl _ _).alloc (Nat.le_refl _) _
  have g0 := g.to hb0
  have x0 := Bx.new true f A n c cd a w
  have s0 := hs.to hb0
  have Hfew := Lib.hid hfew
  clear hfew hs g
  go_enter Tryd.func5, Tryd.ntmps5
  go_wp2_with fail
  refine (awake _ g0).mono ?_
  rintro e w1 ⟨rfl, hb1⟩
  have g1 := g0.to hb1
  have x1 := x0.below hb1
  have s1 := s0.to hb1
  obtain ⟨c0, c1, c2, c3, c4⟩ := x1
  go_wp2_with fail
  refine (few true A n c cd a f l _ s1 hn).mono ?_
  rintro e w2 ⟨rfl, hb2⟩
  rw [Hfew.out]
  have g2 := g1.to hb2
  have x2 := Bx.below ⟨c0, c1, c2, c3, c4⟩ hb2
  have s2 := s1.to hb2
  clear c0 c1 c2 c3 c4
  obtain ⟨c0, c1, c2, c3, c4⟩ := x2
  go_wp2_with fail
  refine (awake _ g2).mono ?_
  rintro e w3 ⟨rfl, hb3⟩
  go_wp2_with fail
  go_ret
  exact ⟨rfl, hb0.trans (Below.mono (hb1.trans (Below.mono (hb2.trans (Below.mono (hb3) hb2.size)) hb1.size)) hb0.size)⟩
set_option maxHeartbeats 4000000 in
theorem wraps_long (f : Bool) (A : Option Addr) (n c : Nat) (cd a : Int) (l : List ByteArray) (w : World) (g : Gl w) (hs : Ss w w.heap.size A n l) (hn : n ≤ 9223372036854775807) (s : ByteArray) (hfew : fewB l a = true) (hsl : (50 : Int) < (s.size : Int)) :
    Calls Tryd.prog 5 #[.agg #[.bool false, .slice A n c, .int .i64 cd, .int .i64 a, .bool f], .string s] w fun e w' => e = .returned (.bool true) ∧ Below w.heap.size w w' := by
  have hb0 : Below w.heap.size w (w.alloc (.cells #[.bool false, .slice A n c, .int .i64 cd, .int .i64 a, .bool f] 24)) := (Below.refl _ _).alloc (Nat.le_refl _) _
  have g0 := g.to hb0
  have x0 := Bx.new false f A n c cd a w
  have s0 := hs.to hb0
  have Hfew := Lib.hid hfew
  clear hfew hs g
  go_enter Tryd.func5, Tryd.ntmps5
  go_wp2_with fail
  refine (awake _ g0).mono ?_
  rintro e w1 ⟨rfl, hb1⟩
  have g1 := g0.to hb1
  have x1 := x0.below hb1
  have s1 := s0.to hb1
  obtain ⟨c0, c1, c2, c3, c4⟩ := x1
  go_wp2_with fail
  refine (few false A n c cd a f l _ s1 hn).mono ?_
  rintro e w2 ⟨rfl, hb2⟩
  rw [Hfew.out]
  have g2 := g1.to hb2
  have x2 := Bx.below ⟨c0, c1, c2, c3, c4⟩ hb2
  have s2 := s1.to hb2
  clear c0 c1 c2 c3 c4
  obtain ⟨c0, c1, c2, c3, c4⟩ := x2
  go_wp2_with fail
  refine (awake _ g2).mono ?_
  rintro e w3 ⟨rfl, hb3⟩
  go_wp2_with fail
  go_ret
  exact ⟨rfl, hb0.trans (Below.mono (hb1.trans (Below.mono (hb2.trans (Below.mono (hb3) hb2.size)) hb1.size)) hb0.size)⟩
set_option maxHeartbeats 4000000 in
theorem wraps_yes (f : Bool) (A : Option Addr) (n c : Nat) (cd a : Int) (l : List ByteArray) (w : World) (g : Gl w) (hs : Ss w w.heap.size A n l) (hn : n ≤ 9223372036854775807) (s : ByteArray) (hfew : fewB l a = true) (hcd : -9223372036854775808 ≤ cd ∧ cd ≤ 9223372036854775807) (hsl : ¬ (50 : Int) < (s.size : Int)) :
    Calls Tryd.prog 5 #[.agg #[.bool false, .slice A n c, .int .i64 cd, .int .i64 a, .bool f], .string s] w fun e w' => e = .returned (.bool true) ∧ Below w.heap.size w w' := by
  have hb0 : Below w.heap.size w (w.alloc (.cells #[.bool false, .slice A n c, .int .i64 cd, .int .i64 a, .bool f] 24)) := (Below.refl _ _).alloc (Nat.le_refl _) _
  have g0 := g.to hb0
  have x0 := Bx.new false f A n c cd a w
  have s0 := hs.to hb0
  obtain ⟨hsm, hn20, ha0, ha1⟩ := few_facts hfew hs.1
  have hok := mkE_ok l _ (base_ok cd a f hcd)
  have hsz : (mkE l (baseE cd a f)).text.size ≤ 1000000 := by
    have h1 := text_size _ (base_size cd a f hcd) l hsm
    have h2 := hs.1
    omega
  obtain ⟨z, hz1, hz2, hz3⟩ := next_ne cd hcd
  have hh1 : (Er.wrap s (mkE l (baseE cd a f))).has cd = true := by
    show (mkE l (baseE cd a f)).has cd = true
    rw [mkE_has, base_has]; simp
  have hh2 : (Er.wrap s (mkE l (baseE cd a f))).has z = false := by
    show (mkE l (baseE cd a f)).has z = false
    rw [mkE_has, base_has]; exact hz3
  have Hh1 := Lib.hid hh1
  have Hh2 := Lib.hid hh2
  have Hok := Lib.hid hok
  have Hsz := Lib.hid hsz
  have Hfew := Lib.hid hfew
  have hm := (mkE l (baseE cd a f)).method
  have hen := (mkE l (baseE cd a f)).enters
  clear hfew hs g hok hsz hcd hsm hn20 ha0 ha1 hh1 hh2 hz3
  have hne := nilEq
  have hnq := nilNeq
  go_enter Tryd.func5, Tryd.ntmps5
  go_wp2_with fail
  refine (awake _ g0).mono ?_
  rintro e w1 ⟨rfl, hb1⟩
  have g1 := g0.to hb1
  have x1 := x0.below hb1
  have s1 := s0.to hb1
  obtain ⟨c0, c1, c2, c3, c4⟩ := x1
  go_wp2_with fail
  refine (few false A n c cd a f l _ s1 hn).mono ?_
  rintro e w2 ⟨rfl, hb2⟩
  rw [Hfew.out]
  have g2 := g1.to hb2
  have x2 := Bx.below ⟨c0, c1, c2, c3, c4⟩ hb2
  have s2 := s1.to hb2
  clear c0 c1 c2 c3 c4
  obtain ⟨c0, c1, c2, c3, c4⟩ := x2
  go_wp2_with fail
  refine (build A n c cd a f l _ s2 hn).mono ?_
  rintro e w3 ⟨rfl, hb3⟩
  have g3 := g2.to hb3
  have x3 := Bx.below ⟨c0, c1, c2, c3, c4⟩ hb3
  clear c0 c1 c2 c3 c4
  obtain ⟨c0, c1, c2, c3, c4⟩ := x3
  go_wp2_with fail
  refine (in_ s (mkE l (baseE cd a f)).ty (mkE l (baseE cd a f)).pay _).mono ?_
  rintro e w' ⟨rfl, rfl⟩
  go_wp2_with fail
  refine (unwrap (.wrap s (mkE l (baseE cd a f))) _).mono ?_
  rintro e w4 ⟨rfl, hb4⟩
  rw [show (Er.wrap s (mkE l (baseE cd a f))).nextV = .iface (mkE l (baseE cd a f)).ty (mkE l (baseE cd a f)).pay from rfl]
  have g4 := g3.to hb4
  have x4 := Bx.below ⟨c0, c1, c2, c3, c4⟩ hb4
  clear c0 c1 c2 c3 c4
  obtain ⟨c0, c1, c2, c3, c4⟩ := x4
  go_wp2_with fail
  refine (text (mkE l (baseE cd a f)) _ g4 Hok.out Hsz.out).mono ?_
  rintro e w5 ⟨rfl, hb5⟩
  have g5 := g4.to hb5
  have x5 := Bx.below ⟨c0, c1, c2, c3, c4⟩ hb5
  clear c0 c1 c2 c3 c4
  obtain ⟨c0, c1, c2, c3, c4⟩ := x5
  go_wp2_with fail
  refine (text (mkE l (baseE cd a f)) _ g5 Hok.out Hsz.out).mono ?_
  rintro e w6 ⟨rfl, hb6⟩
  have g6 := g5.to hb6
  have x6 := Bx.below ⟨c0, c1, c2, c3, c4⟩ hb6
  clear c0 c1 c2 c3 c4
  obtain ⟨c0, c1, c2, c3, c4⟩ := x6
  go_wp2_with fail
  refine (Is_ (.wrap s (mkE l (baseE cd a f))) cd _).mono ?_
  rintro e w7 ⟨rfl, hb7⟩
  rw [Hh1.out]
  have g7 := g6.to hb7
  have x7 := Bx.below ⟨c0, c1, c2, c3, c4⟩ hb7
  clear c0 c1 c2 c3 c4
  obtain ⟨c0, c1, c2, c3, c4⟩ := x7
  go_wp2_with fail
  refine (Is_ (.wrap s (mkE l (baseE cd a f))) z _).mono ?_
  rintro e w8 ⟨rfl, hb8⟩
  rw [Hh2.out]
  go_wp2_with fail
  go_ret
  exact ⟨rfl, hb0.trans (Below.mono (hb1.trans (Below.mono (hb2.trans (Below.mono (hb3.trans (Below.mono (hb4.trans (Below.mono (hb5.trans (Below.mono (hb6.trans (Below.mono (hb7.trans (Below.mono (hb8) hb7.size)) hb6.size)) hb5.size)) hb4.size)) hb3.size)) hb2.size)) hb1.size)) hb0.size)⟩
theorem wraps (nl f : Bool) (A : Option Addr) (n c : Nat) (cd a : Int) (s : ByteArray) (l : List ByteArray) (w : World) (g : Gl w) (hs : Ss w w.heap.size A n l) (hn : n ≤ 9223372036854775807) (hcd : -9223372036854775808 ≤ cd ∧ cd ≤ 9223372036854775807) (hws : s.size ≤ maxLen) :
    Calls Tryd.prog 5 #[.agg #[.bool nl, .slice A n c, .int .i64 cd, .int .i64 a, .bool f], .string s] w fun e w' => e = .returned (.bool true) ∧ Below w.heap.size w w' := by
  cases hfew : fewB l a with
  | false => exact wraps_no nl f A n c cd a l w g hs hn s hfew
  | true =>
    cases nl with
    | true => exact wraps_nil f A n c cd a l w g hs hn s hfew
    | false =>
      by_cases h : (50 : Int) < (s.size : Int)
      · exact wraps_long f A n c cd a l w g hs hn s hfew h
      · exact wraps_yes f A n c cd a l w g hs hn s hfew hcd h
end Go.Proofs.YtiddiahlodlmlaaDoor
