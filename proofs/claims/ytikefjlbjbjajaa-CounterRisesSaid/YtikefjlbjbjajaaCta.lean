/-
  Contracts of package counter and of the reference package of layer 18, each by a walk through its text. A counter in memory: its next number, how many it has given, whether it is closed; it has given no more than its next number, which is at most 2^63 - 1.
-/
import Derived.Test.YtikefjlbjbjajaaBut
import Derived.Test.YtikefjlbjbjajaaCde
import Derived.Lib.MinMax
import Derived.Deep.RegionHeld3
namespace Go.Proofs.Ytikefjlbjbjajaa
open Go.RowKit
set_option linter.unusedVariables false
set_option linter.unusedSimpArgs false
set_option maxRecDepth 100000

def ctF (x k : Nat) (z : Bool) : Nat → Value
  | 0 => .int .u64 (x : Int) | 1 => .int .u64 (k : Int) | _ => .bool z
/-- A counter in block g. -/
structure Ct (w : World) (g x k : Nat) (z : Bool) : Prop where
  cx : Cx w g 3 (ctF x k z)
  top : x ≤ 9223372036854775807
  few : k ≤ x
/-- The code of a counter's error; 0: none. -/
def cdC (x : Nat) (z : Bool) : Nat := if z then 7 else if 9223372036854775807 ≤ x then 6 else 0
/-- The number that it gives, or 0. -/
def vlC (x : Nat) (z : Bool) : Nat := if cdC x z = 0 then x else 0
/-- One more, if it gives a number. -/
def upC (x : Nat) (z : Bool) (n : Nat) : Nat := if cdC x z = 0 then n + 1 else n
/-- How many are left. -/
def lfC (x : Nat) (z : Bool) : Nat := if z then 0 else 9223372036854775807 - x
theorem cdC_lt (x : Nat) (z : Bool) : cdC x z < 8 := by unfold cdC; split <;> (try split) <;> omega
theorem cdC_no {x : Nat} {z : Bool} (h : cdC x z = 0) : z = false ∧ x < 9223372036854775807 := by
  unfold cdC at h
  cases z with
  | true => simp at h
  | false =>
    refine ⟨rfl, ?_⟩
    rw [if_neg (by decide)] at h
    split at h <;> omega
section
variable {w w' : World} {g x k : Nat} {z : Bool} {S : Nat → Prop}
theorem Ct.lt (h : Ct w g x k z) : g < w.heap.size := h.cx.lt (by omega)
theorem Ct.but (h : Ct w g x k z) (hb : But S w w') (hs : ¬ S g) : Ct w' g x k z := ⟨h.cx.but hb hs, h.top, h.few⟩
theorem Ct.to (h : Ct w g x k z) (hb : Below w.heap.size w w') : Ct w' g x k z := ⟨h.cx.to (by omega) hb, h.top, h.few⟩
theorem Ct.keep {B : Nat} (h : Ct w g x k z) (hg : g < B) (hb : Below B w w') : Ct w' g x k z := ⟨h.cx.keep hg hb, h.top, h.few⟩
theorem Ct.drew (h : Ct w g x k z) : Ct w.drew g x k z := ⟨h.cx, h.top, h.few⟩
theorem Ct.c0 (h : Ct w g x k z) : w.cell? ⟨g, 0, none⟩ = some (.int .u64 (x : Int)) := (h.cx 0 (by omega)).1
theorem Ct.c1 (h : Ct w g x k z) : w.cell? ⟨g, 1, none⟩ = some (.int .u64 (k : Int)) := (h.cx 1 (by omega)).1
theorem Ct.c2 (h : Ct w g x k z) : w.cell? ⟨g, 2, none⟩ = some (.bool z) := (h.cx 2 (by omega)).1
theorem Ct.z0 (h : Ct w g x k z) : w.frozen? ⟨g, 0, none⟩ = false := (h.cx 0 (by omega)).2
theorem Ct.z1 (h : Ct w g x k z) : w.frozen? ⟨g, 1, none⟩ = false := (h.cx 1 (by omega)).2
theorem Ct.z2 (h : Ct w g x k z) : w.frozen? ⟨g, 2, none⟩ = false := (h.cx 2 (by omega)).2
end

set_option maxHeartbeats 1600000 in
theorem cnew (x : Nat) (w : World) (hx : x < 18446744073709551616) :
    Calls Try.prog 9 #[.int .u64 (x : Int)] w fun e w' => ∃ g, e = .returned (.pointer (some ⟨g, 0, none⟩)) ∧ w.heap.size ≤ g ∧ Ct w' g (min x 9223372036854775807) 0 false ∧ Below w.heap.size w w' := by
  obtain ⟨m, hm⟩ : ∃ m, min x 9223372036854775807 = m := ⟨_, rfl⟩
  have h1 := Lib.hid (show min (x : Int) 9223372036854775807 = (m : Int) by omega)
  have h2 : m ≤ 9223372036854775807 := by omega
  rw [hm]
  clear hm
  go_enter Try.func9, Try.ntmps9
  go_wp2_with fail
  rw [h1.out]
  go_ret
  refine ⟨_, rfl, Nat.le_refl _, ⟨?_, h2, Nat.zero_le _⟩, (Below.refl _ _).alloc (Nat.le_refl _) _⟩
  exact Cx.new w 3 (ctF m 0 false) _

set_option maxHeartbeats 1600000 in
theorem ccode (p x k : Nat) (z : Bool) (g : Nat) (w : World) (hp : w.cell? ⟨p, 0, none⟩ = some (.pointer (some ⟨g, 0, none⟩))) (h : Ct w g x k z) :
    Calls Try.prog 19 #[.pointer (some ⟨p, 0, none⟩)] w fun e w' => e = .returned (erW (cdC x z)) ∧ w' = w := by
  have c0 := h.c0
  have c2 := h.c2
  have ht := h.top
  clear h
  cases z with
  | true =>
    go_enter Try.func19, Try.ntmps19
    go_wp2_with fail
    go_ret
    exact ⟨rfl, rfl⟩
  | false =>
    by_cases h9 : 9223372036854775807 ≤ x
    · obtain rfl : x = 9223372036854775807 := by omega
      clear ht h9
      go_enter Try.func19, Try.ntmps19
      go_wp2_with fail
      go_ret
      exact ⟨rfl, rfl⟩
    · have i1 : ¬ (x : Int) ≥ 9223372036854775807 := by omega
      rw [show cdC x false = 0 by unfold cdC; rw [if_neg (by decide), if_neg h9]]
      clear ht h9
      go_enter Try.func19, Try.ntmps19
      go_wp2_with fail
      go_ret
      exact ⟨rfl, rfl⟩

set_option maxHeartbeats 1600000 in
theorem ccode_nil (p : Nat) (w : World) (hp : w.cell? ⟨p, 0, none⟩ = some (.pointer none)) :
    Calls Try.prog 19 #[.pointer (some ⟨p, 0, none⟩)] w fun e w' => e = .returned (erW 7) ∧ w' = w := by
  go_enter Try.func19, Try.ntmps19
  go_wp2_with fail
  go_ret
  exact ⟨rfl, rfl⟩

set_option maxHeartbeats 1600000 in
theorem ccodes (q : Option Addr) (w : World) :
    Calls Try.prog 18 #[.pointer q] w fun e w' => e = .returned (.func (.func 19) #[] #[.pointer (some ⟨w.heap.size, 0, none⟩)]) ∧ w' = w.alloc (.cells #[.pointer q] 25) := by
  go_enter Try.func18, Try.ntmps18
  go_wp2_with fail
  go_ret
  exact ⟨rfl, rfl⟩

set_option maxHeartbeats 1600000 in
theorem cpeek (g x k : Nat) (z : Bool) (w : World) (h : Ct w g x k z) :
    Calls Try.prog 12 #[.pointer (some ⟨g, 0, none⟩)] w fun e w' => e = .returned (.tuple #[.int .u64 (vlC x z : Nat), erW (cdC x z)]) ∧ Below w.heap.size w w' := by
  have hb : Below w.heap.size w (w.alloc (.cells #[.pointer (some ⟨g, 0, none⟩)] 25)) := (Below.refl _ _).alloc (Nat.le_refl _) _
  have hp : (w.alloc (.cells #[.pointer (some ⟨g, 0, none⟩)] 25)).cell? ⟨w.heap.size, 0, none⟩ = some (.pointer (some ⟨g, 0, none⟩)) := World.cell?_alloc_at _ _ _ _ rfl
  generalize hv : w.alloc (.cells #[.pointer (some ⟨g, 0, none⟩)] 25) = v at hb hp
  have hv2 := h.to hb
  have hn := h.lt
  have c0 := hv2.c0
  have c1 := hv2.c1
  have z0 := hv2.z0
  have z1 := hv2.z1
  by_cases hC : cdC x z = 0
  · have hC2 := Lib.hid hC
    obtain ⟨hz, hx⟩ := cdC_no hC
    have hk := h.few
    rw [erW_no hC, show vlC x z = x from if_pos hC]
    clear hC hz hx hk h
    go_enter Try.func12, Try.ntmps12
    go_wp2_with fail
    refine (ccodes (some ⟨g, 0, none⟩) _).mono ?_
    rintro e w1 ⟨rfl, rfl⟩
    go_wp2_with fail
    try rw [hv]
    clear hv
    refine (ccode _ x k z g _ hp hv2).mono ?_
    rintro e w1 ⟨rfl, rfl⟩
    rw [erW_no hC2.out]
    go_wp2_with fail
    go_ret2
    exact ⟨rfl, hb⟩
  · have hC2 := Lib.hid hC
    have hN := erNe 42 (.int .i64 (cdC x z : Nat))
    rw [erW_is hC, show vlC x z = 0 from if_neg hC]
    clear hC h
    go_enter Try.func12, Try.ntmps12
    go_wp2_with fail
    refine (ccodes (some ⟨g, 0, none⟩) _).mono ?_
    rintro e w1 ⟨rfl, rfl⟩
    go_wp2_with fail
    try rw [hv]
    clear hv
    refine (ccode _ x k z g _ hp hv2).mono ?_
    rintro e w1 ⟨rfl, rfl⟩
    rw [erW_is hC2.out]
    go_wp2_with fail
    go_ret2
    exact ⟨rfl, hb⟩

set_option maxHeartbeats 1600000 in
theorem cpeek_nil (w : World) :
    Calls Try.prog 12 #[.pointer none] w fun e w' => e = .returned (.tuple #[.int .u64 0, erW 7]) ∧ Below w.heap.size w w' := by
  have hb : Below w.heap.size w (w.alloc (.cells #[.pointer none] 25)) := (Below.refl _ _).alloc (Nat.le_refl _) _
  have hp : (w.alloc (.cells #[.pointer none] 25)).cell? ⟨w.heap.size, 0, none⟩ = some (.pointer none) := World.cell?_alloc_at _ _ _ _ rfl
  generalize hv : w.alloc (.cells #[.pointer none] 25) = v at hb hp
  have hN := erNe 42 (.int .i64 ((7 : Nat) : Int))
  go_enter Try.func12, Try.ntmps12
  go_wp2_with fail
  refine (ccodes none _).mono ?_
  rintro e w1 ⟨rfl, rfl⟩
  go_wp2_with fail
  try rw [hv]
  clear hv
  refine (ccode_nil _ _ hp).mono ?_
  rintro e w1 ⟨rfl, rfl⟩
  rw [erW_is (by decide)]
  go_wp2_with fail
  go_ret2
  exact ⟨rfl, hb⟩

set_option maxHeartbeats 1600000 in
theorem cnext (g x k : Nat) (z : Bool) (w : World) (h : Ct w g x k z) :
    Calls Try.prog 14 #[.pointer (some ⟨g, 0, none⟩)] w fun e w' => e = .returned (.tuple #[.int .u64 (vlC x z : Nat), erW (cdC x z)]) ∧ Ct w' g (upC x z x) (upC x z k) z ∧ But (On g) w w' := by
  have hb : Below w.heap.size w (w.alloc (.cells #[.pointer (some ⟨g, 0, none⟩)] 25)) := (Below.refl _ _).alloc (Nat.le_refl _) _
  have hp : (w.alloc (.cells #[.pointer (some ⟨g, 0, none⟩)] 25)).cell? ⟨w.heap.size, 0, none⟩ = some (.pointer (some ⟨g, 0, none⟩)) := World.cell?_alloc_at _ _ _ _ rfl
  generalize hv : w.alloc (.cells #[.pointer (some ⟨g, 0, none⟩)] 25) = v at hb hp
  have hv2 := h.to hb
  have hn := h.lt
  have c0 := hv2.c0
  have c1 := hv2.c1
  have z0 := hv2.z0
  have z1 := hv2.z1
  by_cases hC : cdC x z = 0
  · have hC2 := Lib.hid hC
    obtain ⟨hz, hx⟩ := cdC_no hC
    have hk := h.few
    rw [erW_no hC, show vlC x z = x from if_pos hC, show upC x z x = x + 1 from if_pos hC, show upC x z k = k + 1 from if_pos hC]
    have a1 := Lib.hid (show IntKind.u64.wrap ((x : Int) + 1) = ((x + 1 : Nat) : Int) by rw [IntKind.wrap_u64]; omega)
    have a2 := Lib.hid (show IntKind.u64.wrap ((k : Int) + 1) = ((k + 1 : Nat) : Int) by rw [IntKind.wrap_u64]; omega)
    have HX := Lib.hid hx
    have HK := Lib.hid hk
    clear hC hz hx hk h
    go_enter Try.func14, Try.ntmps14
    go_wp2_with fail
    refine (ccodes (some ⟨g, 0, none⟩) _).mono ?_
    rintro e w1 ⟨rfl, rfl⟩
    go_wp2_with fail
    try rw [hv]
    clear hv
    refine (ccode _ x k z g _ hp hv2).mono ?_
    rintro e w1 ⟨rfl, rfl⟩
    rw [erW_no hC2.out]
    go_wp2_with fail
    rw [a1.out, a2.out]
    go_ret2
    have hx := HX.out
    have hk := HK.out
    refine ⟨rfl, ⟨((hv2.cx.set _ (by omega)).set _ (by omega)).ext (fun j hj => ?_), by omega, by omega⟩, ((But.of hb).put 0 _).put 1 _⟩
    have hj3 : j = 0 ∨ j = 1 ∨ j = 2 := by omega
    rcases hj3 with rfl | rfl | rfl <;> rfl
  · have hC2 := Lib.hid hC
    have hN := erNe 42 (.int .i64 (cdC x z : Nat))
    rw [erW_is hC, show vlC x z = 0 from if_neg hC, show upC x z x = x from if_neg hC, show upC x z k = k from if_neg hC]
    clear hC h
    go_enter Try.func14, Try.ntmps14
    go_wp2_with fail
    refine (ccodes (some ⟨g, 0, none⟩) _).mono ?_
    rintro e w1 ⟨rfl, rfl⟩
    go_wp2_with fail
    try rw [hv]
    clear hv
    refine (ccode _ x k z g _ hp hv2).mono ?_
    rintro e w1 ⟨rfl, rfl⟩
    rw [erW_is hC2.out]
    go_wp2_with fail
    go_ret2
    exact ⟨rfl, hv2, But.of hb⟩

set_option maxHeartbeats 1600000 in
theorem cnext_nil (w : World) :
    Calls Try.prog 14 #[.pointer none] w fun e w' => e = .returned (.tuple #[.int .u64 0, erW 7]) ∧ Below w.heap.size w w' := by
  have hb : Below w.heap.size w (w.alloc (.cells #[.pointer none] 25)) := (Below.refl _ _).alloc (Nat.le_refl _) _
  have hp : (w.alloc (.cells #[.pointer none] 25)).cell? ⟨w.heap.size, 0, none⟩ = some (.pointer none) := World.cell?_alloc_at _ _ _ _ rfl
  generalize hv : w.alloc (.cells #[.pointer none] 25) = v at hb hp
  have hN := erNe 42 (.int .i64 ((7 : Nat) : Int))
  go_enter Try.func14, Try.ntmps14
  go_wp2_with fail
  refine (ccodes none _).mono ?_
  rintro e w1 ⟨rfl, rfl⟩
  go_wp2_with fail
  try rw [hv]
  clear hv
  refine (ccode_nil _ _ hp).mono ?_
  rintro e w1 ⟨rfl, rfl⟩
  rw [erW_is (by decide)]
  go_wp2_with fail
  go_ret2
  exact ⟨rfl, hb⟩

set_option maxHeartbeats 1600000 in
theorem cleft (g x k : Nat) (z : Bool) (w : World) (h : Ct w g x k z) :
    Calls Try.prog 17 #[.pointer (some ⟨g, 0, none⟩)] w fun e w' => e = .returned (.int .u64 (lfC x z : Nat)) ∧ Below w.heap.size w w' := by
  by_cases hC : cdC x z = 0
  · have hC2 := Lib.hid hC
    obtain ⟨hz, hx⟩ := cdC_no hC
    have a1 := Lib.hid (show IntKind.u64.wrap (9223372036854775807 - (x : Int)) = ((9223372036854775807 - x : Nat) : Int) by rw [IntKind.wrap_u64]; omega)
    subst hz
    rw [show lfC x false = 9223372036854775807 - x from rfl]
    clear hC hx
    go_enter Try.func17, Try.ntmps17
    go_wp2_with fail
    refine (cpeek g x k _ _ h).mono ?_
    rintro e w1 ⟨rfl, hB⟩
    rw [erW_no hC2.out, show vlC x false = x from if_pos hC2.out]
    go_wp2_with fail
    rw [a1.out]
    go_ret
    exact ⟨rfl, hB⟩
  · have hC2 := Lib.hid hC
    have hN := erNe 42 (.int .i64 (cdC x z : Nat))
    have hl : lfC x z = 0 := by
      unfold lfC
      cases z with
      | true => rfl
      | false =>
        rw [if_neg (by decide)]
        unfold cdC at hC
        rw [if_neg (by decide)] at hC
        have ht := h.top
        split at hC <;> omega
    rw [hl]
    clear hC hl
    go_enter Try.func17, Try.ntmps17
    go_wp2_with fail
    refine (cpeek g x k _ _ h).mono ?_
    rintro e w1 ⟨rfl, hB⟩
    rw [erW_is hC2.out, show vlC x z = 0 from if_neg hC2.out]
    go_wp2_with fail
    go_ret
    exact ⟨rfl, hB⟩

set_option maxHeartbeats 1600000 in
theorem cleft_nil (w : World) :
    Calls Try.prog 17 #[.pointer none] w fun e w' => e = .returned (.int .u64 0) ∧ Below w.heap.size w w' := by
  have hN := erNe 42 (.int .i64 ((7 : Nat) : Int))
  go_enter Try.func17, Try.ntmps17
  go_wp2_with fail
  refine (cpeek_nil _).mono ?_
  rintro e w1 ⟨rfl, hB⟩
  rw [erW_is (by decide)]
  go_wp2_with fail
  go_ret
  exact ⟨rfl, hB⟩

set_option maxHeartbeats 1600000 in
theorem cgiven (g x k : Nat) (z : Bool) (w : World) (h : Ct w g x k z) :
    Calls Try.prog 16 #[.pointer (some ⟨g, 0, none⟩)] w fun e w' => e = .returned (.int .u64 (k : Int)) ∧ w' = w := by
  have c1 := h.c1
  clear h
  go_enter Try.func16, Try.ntmps16
  go_wp2_with fail
  go_ret
  exact ⟨rfl, rfl⟩

set_option maxHeartbeats 1600000 in
theorem cgiven_nil (w : World) :
    Calls Try.prog 16 #[.pointer none] w fun e w' => e = .returned (.int .u64 0) ∧ w' = w := by
  go_enter Try.func16, Try.ntmps16
  go_wp2_with fail
  go_ret
  exact ⟨rfl, rfl⟩

set_option maxHeartbeats 1600000 in
theorem cclose (g x k : Nat) (z : Bool) (w : World) (h : Ct w g x k z) :
    Calls Try.prog 15 #[.pointer (some ⟨g, 0, none⟩)] w fun e w' => e = .returned (.tuple #[]) ∧ Ct w' g x k true ∧ But (On g) w w' := by
  have c2 := h.c2
  have z2 := h.z2
  go_enter Try.func15, Try.ntmps15
  go_wp2_with fail
  go_end0
  refine ⟨rfl, ⟨(h.cx.set _ (by omega)).ext (fun j hj => ?_), h.top, h.few⟩, (But.refl _ _).put 2 _⟩
  have hj3 : j = 0 ∨ j = 1 ∨ j = 2 := by omega
  rcases hj3 with rfl | rfl | rfl <;> rfl

set_option maxHeartbeats 1600000 in
theorem cclose_nil (w : World) :
    Calls Try.prog 15 #[.pointer none] w fun e w' => e = .returned (.tuple #[]) ∧ w' = w := by
  go_enter Try.func15, Try.ntmps15
  go_wp2_with fail
  go_end0
  exact ⟨rfl, rfl⟩

set_option maxHeartbeats 1600000 in
theorem rcnew (x : Nat) (w : World) (hx : x < 18446744073709551616) :
    Calls Try.prog 10 #[.int .u64 (x : Int)] w fun e w' => e = .returned (.agg #[.int .u64 ((min x 9223372036854775807 : Nat)), .int .u64 (0), .bool false]) ∧ Below w.heap.size w w' := by
  obtain ⟨dK, hu, hd⟩ := row_of (show (Try.prog.underlying 28).map (·.isRow) = some true by kernel_rfl)
  have HU := Lib.hid hu
  clear hu
  by_cases h : x > 9223372036854775807
  · have i1 : (x : Int) > 9223372036854775807 := by omega
    rw [show min x 9223372036854775807 = 9223372036854775807 by omega]
    clear h hx
    go_enter Try.func10, Try.ntmps10
    go_wp2_with fail
    refine bodyPost_ret (v := .agg #[.int .u64 ((9223372036854775807 : Nat) : Int), .int .u64 ((0 : Nat) : Int), .bool false]) (results_cx rfl rfl (Cx.new _ 3 (ctF (9223372036854775807) 0 false) _) HU.out hd (by rw [cxL_len]; kernel_rfl)) rfl ⟨rfl, (Below.refl _ _).alloc (Nat.le_refl _) _⟩
  · have i1 : ¬ (x : Int) > 9223372036854775807 := by omega
    rw [show min x 9223372036854775807 = x by omega]
    clear h hx
    go_enter Try.func10, Try.ntmps10
    go_wp2_with fail
    refine bodyPost_ret (v := .agg #[.int .u64 ((x : Nat) : Int), .int .u64 ((0 : Nat) : Int), .bool false]) (results_cx rfl rfl (Cx.new _ 3 (ctF (x) 0 false) _) HU.out hd (by rw [cxL_len]; kernel_rfl)) rfl ⟨rfl, (Below.refl _ _).alloc (Nat.le_refl _) _⟩

set_option maxHeartbeats 1600000 in
theorem rcpeek (a k x : Nat) (z : Bool) (w : World) (hs : a + k = x) (ht : x ≤ 9223372036854775807) :
    Calls Try.prog 11 #[.agg #[.int .u64 ((a : Int)), .int .u64 ((k : Int)), .bool z]] w fun e w' => e = .returned (.tuple #[.int .u64 (vlC x z : Nat), .int .i64 (cdC x z : Nat)]) ∧ Below w.heap.size w w' := by
  have a1 : IntKind.u64.wrap ((a : Int) + (k : Int)) = (x : Int) := by rw [IntKind.wrap_u64]; omega
  clear hs
  cases z with
  | true =>
    clear ht a1
    go_enter Try.func11, Try.ntmps11
    go_wp2_with fail
    go_ret2
    exact ⟨rfl, (Below.refl _ _).alloc (Nat.le_refl _) _⟩
  | false =>
    by_cases h9 : x = 9223372036854775807
    · subst h9
      clear ht
      go_enter Try.func11, Try.ntmps11
      go_wp2_with fail
      go_ret2
      exact ⟨rfl, (Below.refl _ _).alloc (Nat.le_refl _) _⟩
    · have i1 : ((x : Int) == 9223372036854775807) = false := by simp; omega
      have h8 : ¬ 9223372036854775807 ≤ x := by omega
      rw [show cdC x false = 0 by unfold cdC; rw [if_neg (by decide), if_neg h8]]
      rw [show vlC x false = x from if_pos (by unfold cdC; rw [if_neg (by decide), if_neg h8])]
      clear ht h9 h8
      go_enter Try.func11, Try.ntmps11
      go_wp2_with fail
      go_ret2
      exact ⟨rfl, (Below.refl _ _).alloc (Nat.le_refl _) _⟩
end Go.Proofs.Ytikefjlbjbjajaa
