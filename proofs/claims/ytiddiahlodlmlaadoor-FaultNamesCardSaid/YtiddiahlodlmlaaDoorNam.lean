/-
  The walk of the law FaultNames.
-/
import Derived.Test.YtiddiahlodlmlaaDoorBox
import Derived.Deep.RegionHeld3
namespace Go.Proofs.YtiddiahlodlmlaaDoor
open Go.RowKit Go.Extern.Stop Go.Stop Go.Extern Go.Shelf
set_option linter.unusedVariables false
set_option maxRecDepth 100000

/-- What Text gives for a built error. -/
def toldE (l : List ByteArray) (cd a : Int) (f : Bool) : ByteArray := if f then nameOf cd ++ ⟨#[32]⟩ ++ itoaB a else nameOf cd
theorem told_mk (l : List ByteArray) (cd a : Int) (f : Bool) (w : World) (g : Gl w) (ha : -9223372036854775808 ≤ a ∧ a ≤ 9223372036854775807) :
    Calls Tryd.prog 19 #[.iface (mkE l (baseE cd a f)).ty (mkE l (baseE cd a f)).pay] w fun e w' => e = .returned (.string (toldS cd a f)) ∧ Below w.heap.size w w' := by
  have hc := mkE_cod l (baseE cd a f)
  cases f with
  | true => exact told_fault _ cd a w g hc.1 hc.2 ha.1 ha.2
  | false => exact told_code _ cd w g hc.1 hc.2
theorem refTold_mk (A : Option Addr) (n c : Nat) (cd a : Int) (f : Bool) (w : World) (ha : -9223372036854775808 ≤ a ∧ a ≤ 9223372036854775807) :
    Calls Tryd.prog 20 #[.agg #[.bool false, .slice A n c, .int .i64 cd, .int .i64 a, .bool f]] w fun e w' => e = .returned (.string (toldS cd a f)) ∧ Below w.heap.size w w' := by
  cases f with
  | true => exact refTold_fault A n c cd a w ha
  | false => exact refTold_code A n c cd a w
/-- errors.New: a pointer to its own text. -/
theorem errNew (s : ByteArray) (w : World) : Calls Tryd.prog 21 #[.string s] w fun e w' => (∃ v, e = .returned (.iface 66 v)) ∧ Below w.heap.size w w' := by
  go_enter Tryd.func21, Tryd.ntmps21
  go_wp2
  go_ret
  exact ⟨⟨_, rfl⟩, (Below.refl _ _).alloc (Nat.le_refl _) _⟩
theorem told_other (v : Value) (w : World) (g : Gl w) : Calls Tryd.prog 19 #[.iface 66 v] w fun e w' => e = .returned (.string ⟨#[101, 114, 114, 111, 114]⟩) ∧ Below w.heap.size w w' := told_none (.other v) w g rfl
theorem nameB_any (c : Int) (w : World) (g : Gl w) : Calls Tryd.prog 17 #[.int .i64 c] w fun e w' => e = .returned (.string (nameOf c)) ∧ Below w.heap.size w w' :=
  (name c w g).mono fun _ _ ⟨he, hw⟩ => ⟨he, by subst hw; exact Below.refl _ _⟩
theorem heldB {W1 W w3 : World} {b n c : Nat} {nl f : Bool} {A : Option Addr} {cd a : Int} (h : W.cell? ⟨b, 0, none⟩ = some (.bool nl) ∧ W.cell? ⟨b, 1, none⟩ = some (.slice A n c) ∧ W.cell? ⟨b, 2, none⟩ = some (.int .i64 cd) ∧ W.cell? ⟨b, 3, none⟩ = some (.int .i64 a) ∧ W.cell? ⟨b, 4, none⟩ = some (.bool f) ∧ Base W1 W) (hb : Below W.heap.size W w3) :
    w3.cell? ⟨b, 0, none⟩ = some (.bool nl) ∧ w3.cell? ⟨b, 1, none⟩ = some (.slice A n c) ∧ w3.cell? ⟨b, 2, none⟩ = some (.int .i64 cd) ∧ w3.cell? ⟨b, 3, none⟩ = some (.int .i64 a) ∧ w3.cell? ⟨b, 4, none⟩ = some (.bool f) ∧ Base W1 w3 :=
  have x := Bx.below ⟨h.1, h.2.1, h.2.2.1, h.2.2.2.1, h.2.2.2.2.1⟩ hb
  ⟨x.c0, x.c1, x.c2, x.c3, x.c4, Base.step h.2.2.2.2.2 hb⟩
theorem Ss.base {w w' : World} {n : Nat} {A : Option Addr} {l : List ByteArray} (h : Ss w w.heap.size A n l) (hb : Base w w') : Ss w' w'.heap.size A n l := h.to hb
set_option maxHeartbeats 4000000 in
theorem names_no (nl f : Bool) (A : Option Addr) (n c : Nat) (cd a m : Int) (l : List ByteArray) (w : World) (g : Gl w) (hs : Ss w w.heap.size A n l) (hn : n ≤ 9223372036854775807) (hfew : fewB l a = false) :
    Calls Tryd.prog 6 #[.int .i64 m, .agg #[.bool nl, .slice A n c, .int .i64 cd, .int .i64 a, .bool f]] w fun e w' => e = .returned (.bool true) ∧ Below w.heap.size w w' := by
  have hb0 : Below w.heap.size w (w.alloc (.cells #[.bool nl, .slice A n c, .int .i64 cd, .int .i64 a, .bool f] 24)) := (Below.refl _ _).alloc (Nat.le_refl _) _
  have g0 := g.to hb0
  have x0 := Bx.new nl f A n c cd a w
  have s0 := hs.to hb0
  have Hfew := Lib.hid hfew
  clear hfew hs g
  go_enter Tryd.func6, Tryd.ntmps6
  go_wp2_with fail
  refine (awake _ g0).mono ?_
  rintro e w1 ⟨rfl, hb1⟩
  have g1 := g0.to hb1
  have x1 := x0.below hb1
  have s1 := s0.to hb1
  obtain ⟨c0, c1, c2, c3, c4⟩ := x1
  go_wp2_with fail
  refine (few nl A n c cd a f l _ s1 hn).mono ?_
  rintro e w2 ⟨rfl, hb2⟩
  rw [Hfew.out]
  have g2 := g1.to hb2
  go_wp2_with fail
  refine (awake _ g2).mono ?_
  rintro e w3 ⟨rfl, hb3⟩
  go_wp2_with fail
  go_ret
  exact ⟨rfl, hb0.trans (Below.mono (hb1.trans (Below.mono (hb2.trans (Below.mono (hb3) hb2.size)) hb1.size)) hb0.size)⟩
set_option maxHeartbeats 4000000 in
theorem names_true (f : Bool) (A : Option Addr) (n c : Nat) (cd a m : Int) (l : List ByteArray) (w : World) (g : Gl w) (hs : Ss w w.heap.size A n l) (hn : n ≤ 9223372036854775807) (hfew : fewB l a = true) :
    Calls Tryd.prog 6 #[.int .i64 m, .agg #[.bool true, .slice A n c, .int .i64 cd, .int .i64 a, .bool f]] w fun e w' => e = .returned (.bool true) ∧ Below w.heap.size w w' := by
  have hb0 : Below w.heap.size w (w.alloc (.cells #[.bool true, .slice A n c, .int .i64 cd, .int .i64 a, .bool f] 24)) := (Below.refl _ _).alloc (Nat.le_refl _) _
  have g0 := g.to hb0
  have x0 := Bx.new true f A n c cd a w
  have s0 := hs.to hb0
  have Hfew := Lib.hid hfew
  clear hfew hs g
  have hne := nilEq
  go_enter Tryd.func6, Tryd.ntmps6
  go_wp2_with fail
  refine (awake _ g0).mono ?_
  rintro e w1 ⟨rfl, hb1⟩
  have g1 := g0.to hb1
  have x1 := x0.below hb1
  have s1 := s0.to hb1
  obtain ⟨c0, c1, c2, c3, c4⟩ := x1
  go_wp2_with fail
  refine (few true A n c cd a f l _ s1 hn).mono ?_
  rintro e w2 ⟨rfl, hb2⟩
  rw [Hfew.out]
  have g2 := g1.to hb2
  have x2 := Bx.below ⟨c0, c1, c2, c3, c4⟩ hb2
  have s2 := s1.to hb2
  clear c0 c1 c2 c3 c4
  obtain ⟨c0, c1, c2, c3, c4⟩ := x2
  go_wp2_with fail
  go_region_held3 (fun W => W.cell? ⟨w.heap.size, 0, none⟩ = some (.bool true) ∧ W.cell? ⟨w.heap.size, 1, none⟩ = some (.slice A n c) ∧ W.cell? ⟨w.heap.size, 2, none⟩ = some (.int .i64 cd) ∧ W.cell? ⟨w.heap.size, 3, none⟩ = some (.int .i64 a) ∧ W.cell? ⟨w.heap.size, 4, none⟩ = some (.bool f) ∧ Base w2 W)
    (first | assumption | (refine ⟨?_, ?_, ?_, ?_, ?_, ?_⟩ <;> first | assumption | exact (Base.refl _).drew | exact c0 | exact c1 | exact c2 | exact c3 | exact c4))
    (first
    | (go_at_call 17
       refine (nameB_any m _ (g2.base (And.right (And.right (And.right (And.right (And.right (by assumption)))))))).mono ?_
       rintro e w6 ⟨rfl, hb6⟩
       have hN := heldB (by assumption) hb6)
    | (go_at_call 18
       refine (refName m _).mono ?_
       rintro e w6 ⟨rfl, hb6⟩
       have hN := heldB (by assumption) hb6)
    | (go_at_call 21
       refine (errNew _ _).mono ?_
       rintro e w6 ⟨⟨v, rfl⟩, hb6⟩
       have hN := heldB (by assumption) hb6)
    | (go_at_call 9
       refine (build_nil A n c cd a f _).mono ?_
       rintro e w6 ⟨rfl, hb6⟩
       have hN := heldB (by assumption) hb6)
    | (go_at_call 19
       (with_reducible refine (told_nil _).mono ?_)
       rintro e w6 ⟨rfl, hb6⟩
       have hN := heldB (by assumption) hb6)
    | (go_at_call 20
       refine (refTold_nil A n c cd a f _).mono ?_
       rintro e w6 ⟨rfl, hb6⟩
       have hN := heldB (by assumption) hb6)
    | (go_at_call 19
       refine (told_other _ _ (g2.base (And.right (And.right (And.right (And.right (And.right (by assumption)))))))).mono ?_
       rintro e w6 ⟨rfl, hb6⟩
       have hN := heldB (by assumption) hb6))
  all_goals
    rename_i hBB
    have hB2 := hBB.2.2.2.2.2
    clear hBB
    go_wp2_with fail
    go_ret
    exact ⟨rfl, hb0.trans (Below.mono (hb1.trans (Below.mono (hb2.trans (Below.mono hB2 hb2.size)) hb1.size)) hb0.size)⟩
set_option maxHeartbeats 4000000 in
theorem names_false (f : Bool) (A : Option Addr) (n c : Nat) (cd a m : Int) (l : List ByteArray) (w : World) (g : Gl w) (hs : Ss w w.heap.size A n l) (hn : n ≤ 9223372036854775807) (hfew : fewB l a = true) :
    Calls Tryd.prog 6 #[.int .i64 m, .agg #[.bool false, .slice A n c, .int .i64 cd, .int .i64 a, .bool f]] w fun e w' => e = .returned (.bool true) ∧ Below w.heap.size w w' := by
  have hb0 : Below w.heap.size w (w.alloc (.cells #[.bool false, .slice A n c, .int .i64 cd, .int .i64 a, .bool f] 24)) := (Below.refl _ _).alloc (Nat.le_refl _) _
  have g0 := g.to hb0
  have x0 := Bx.new false f A n c cd a w
  have s0 := hs.to hb0
  obtain ⟨hsm, hn20, ha0, ha1⟩ := few_facts hfew hs.1
  have ha : -9223372036854775808 ≤ a ∧ a ≤ 9223372036854775807 := by omega
  have Ha := Lib.hid ha
  have Hfew := Lib.hid hfew
  clear hfew hs g ha hsm hn20 ha0 ha1
  have hne := nilEq
  go_enter Tryd.func6, Tryd.ntmps6
  go_wp2_with fail
  refine (awake _ g0).mono ?_
  rintro e w1 ⟨rfl, hb1⟩
  have g1 := g0.to hb1
  have x1 := x0.below hb1
  have s1 := s0.to hb1
  obtain ⟨c0, c1, c2, c3, c4⟩ := x1
  go_wp2_with fail
  refine (few false A n c cd a f l _ s1 hn).mono ?_
  rintro e w2 ⟨rfl, hb2⟩
  rw [Hfew.out]
  have g2 := g1.to hb2
  have x2 := Bx.below ⟨c0, c1, c2, c3, c4⟩ hb2
  have s2 := s1.to hb2
  clear c0 c1 c2 c3 c4
  obtain ⟨c0, c1, c2, c3, c4⟩ := x2
  go_wp2_with fail
  go_region_held3 (fun W => W.cell? ⟨w.heap.size, 0, none⟩ = some (.bool false) ∧ W.cell? ⟨w.heap.size, 1, none⟩ = some (.slice A n c) ∧ W.cell? ⟨w.heap.size, 2, none⟩ = some (.int .i64 cd) ∧ W.cell? ⟨w.heap.size, 3, none⟩ = some (.int .i64 a) ∧ W.cell? ⟨w.heap.size, 4, none⟩ = some (.bool f) ∧ Base w2 W)
    (first | assumption | (refine ⟨?_, ?_, ?_, ?_, ?_, ?_⟩ <;> first | assumption | exact (Base.refl _).drew | exact c0 | exact c1 | exact c2 | exact c3 | exact c4))
    (first
    | (go_at_call 17
       refine (nameB_any m _ (g2.base (And.right (And.right (And.right (And.right (And.right (by assumption)))))))).mono ?_
       rintro e w6 ⟨rfl, hb6⟩
       have hN := heldB (by assumption) hb6)
    | (go_at_call 18
       refine (refName m _).mono ?_
       rintro e w6 ⟨rfl, hb6⟩
       have hN := heldB (by assumption) hb6)
    | (go_at_call 21
       refine (errNew _ _).mono ?_
       rintro e w6 ⟨⟨v, rfl⟩, hb6⟩
       have hN := heldB (by assumption) hb6)
    | (go_at_call 9
       refine (build A n c cd a f l _ (s2.base (And.right (And.right (And.right (And.right (And.right (by assumption))))))) hn).mono ?_
       rintro e w6 ⟨rfl, hb6⟩
       have hN := heldB (by assumption) hb6)
    | (go_at_call 19
       (with_reducible refine (told_mk l cd a f _ (g2.base (And.right (And.right (And.right (And.right (And.right (by assumption))))))) Ha.out).mono ?_)
       rintro e w6 ⟨rfl, hb6⟩
       have hN := heldB (by assumption) hb6)
    | (go_at_call 20
       refine (refTold_mk A n c cd a f _ Ha.out).mono ?_
       rintro e w6 ⟨rfl, hb6⟩
       have hN := heldB (by assumption) hb6)
    | (go_at_call 19
       refine (told_other _ _ (g2.base (And.right (And.right (And.right (And.right (And.right (by assumption)))))))).mono ?_
       rintro e w6 ⟨rfl, hb6⟩
       have hN := heldB (by assumption) hb6))
  all_goals
    rename_i hBB
    have hB2 := hBB.2.2.2.2.2
    clear hBB
    go_wp2_with fail
    go_ret
    exact ⟨rfl, hb0.trans (Below.mono (hb1.trans (Below.mono (hb2.trans (Below.mono hB2 hb2.size)) hb1.size)) hb0.size)⟩
theorem names (nl f : Bool) (A : Option Addr) (n c : Nat) (cd a m : Int) (l : List ByteArray) (w : World) (g : Gl w) (hs : Ss w w.heap.size A n l) (hn : n ≤ 9223372036854775807) (hcd : -9223372036854775808 ≤ cd ∧ cd ≤ 9223372036854775807) :
    Calls Tryd.prog 6 #[.int .i64 m, .agg #[.bool nl, .slice A n c, .int .i64 cd, .int .i64 a, .bool f]] w fun e w' => e = .returned (.bool true) ∧ Below w.heap.size w w' := by
  cases hfew : fewB l a with
  | false => exact names_no nl f A n c cd a m l w g hs hn hfew
  | true =>
    cases nl with
    | true => exact names_true f A n c cd a m l w g hs hn hfew
    | false => exact names_false f A n c cd a m l w g hs hn hfew
end Go.Proofs.YtiddiahlodlmlaaDoor
