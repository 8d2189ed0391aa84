/-
  Contracts of package echo, each by a walk through its text. A keeper in memory: a pointer to a stamp and its tick, or to nothing. Samples in memory: the last one, how many there are, the estimate, which is at most 524287.
-/
import Derived.Test.YtmfmcbghofcafaaEcm
import Derived.Test.YtmfmcbghofcafaaSta
import Derived.Lib.MinMax
namespace Go.Proofs.Ytmfmcbghofcafaa
open Go.RowKit
set_option linter.unusedVariables false
set_option linter.unusedSimpArgs false
set_option maxRecDepth 100000

def tkF (s t : Nat) : Nat → Value
  | 0 => .int .u16 (s : Int) | _ => .int .u64 (t : Int)
def ekF (q : Nat) (z : Bool) : Nat → Value := fun _ => .pointer (if z then some ⟨q, 0, none⟩ else none)
/-- A keeper in block g; if it has a stamp (z), it is s, taken at t, in block q. -/
structure Ek (w : World) (g q s t : Nat) (z : Bool) : Prop where
  cx : Cx w g 1 (ekF q z)
  tk : z = true → Cx w q 2 (tkF s t)
  top : s < 65536 ∧ t < 18446744073709551616
/-- The ticks that it is held. -/
def hdE (t : Nat) (z : Bool) (x : Nat) : Nat := if z then x - t else 0
/-- The reply. -/
def rpE (s t : Nat) (z : Bool) (x : Nat) : Nat := if z then ecN s (x - t) else 65535
theorem rpE_lt (s t : Nat) (z : Bool) (x : Nat) : rpE s t z x < 65536 := by unfold rpE; split; exact ecN_lt _ _; decide
section
variable {w w' : World} {g q s t : Nat} {z : Bool} {S : Nat → Prop}
theorem Ek.lt (h : Ek w g q s t z) : g < w.heap.size := h.cx.lt (by omega)
theorem Ek.ltq (h : Ek w g q s t true) : q < w.heap.size := (h.tk rfl).lt (by omega)
theorem Ek.but (h : Ek w g q s t z) (hb : But S w w') (hs : ¬ S g) (hq : z = true → ¬ S q) : Ek w' g q s t z := ⟨h.cx.but hb hs, fun e => (h.tk e).but hb (hq e), h.top⟩
theorem Ek.to (h : Ek w g q s t z) (hb : Below w.heap.size w w') : Ek w' g q s t z := ⟨h.cx.to (by omega) hb, fun e => (h.tk e).to (by omega) hb, h.top⟩
theorem Ek.drew (h : Ek w g q s t z) : Ek w.drew g q s t z := ⟨h.cx, h.tk, h.top⟩
theorem Ek.c (h : Ek w g q s t z) : w.cell? ⟨g, 0, none⟩ = some (.pointer (if z then some ⟨q, 0, none⟩ else none)) := (h.cx 0 (by omega)).1
theorem Ek.fz (h : Ek w g q s t z) : w.frozen? ⟨g, 0, none⟩ = false := (h.cx 0 (by omega)).2
theorem Ek.c0 (h : Ek w g q s t true) : w.cell? ⟨q, 0, none⟩ = some (.int .u16 (s : Int)) := (h.tk rfl 0 (by omega)).1
theorem Ek.c1 (h : Ek w g q s t true) : w.cell? ⟨q, 1, none⟩ = some (.int .u64 (t : Int)) := (h.tk rfl 1 (by omega)).1
theorem Ek.ne (h : Ek w g q s t true) : q ≠ g := by
  rintro rfl
  have h1 := h.c0
  rw [h.c] at h1
  cases h1
end
def rtF (L n E : Nat) : Nat → Value
  | 0 => .int .u16 (L : Int) | 1 => .int .i64 (n : Int) | _ => .int .u32 (E : Int)
/-- Samples in block g: the last one, how many, the estimate. -/
structure Rt (w : World) (g L n E : Nat) : Prop where
  cx : Cx w g 3 (rtF L n E)
  top : E ≤ 524287
/-- The estimate behind one more sample. -/
def esN (n E s : Nat) : Nat := if n = 0 then 8 * s else E - (E + 4) / 8 + s
theorem esN_le {n E s : Nat} (h : E ≤ 524287) (hs : s < 65536) : esN n E s ≤ 524287 := by unfold esN; split <;> omega
section
variable {w w' : World} {g L n E : Nat} {S : Nat → Prop}
theorem Rt.lt (h : Rt w g L n E) : g < w.heap.size := h.cx.lt (by omega)
theorem Rt.but (h : Rt w g L n E) (hb : But S w w') (hs : ¬ S g) : Rt w' g L n E := ⟨h.cx.but hb hs, h.top⟩
theorem Rt.to (h : Rt w g L n E) (hb : Below w.heap.size w w') : Rt w' g L n E := ⟨h.cx.to (by omega) hb, h.top⟩
theorem Rt.drew (h : Rt w g L n E) : Rt w.drew g L n E := ⟨h.cx, h.top⟩
theorem Rt.c0 (h : Rt w g L n E) : w.cell? ⟨g, 0, none⟩ = some (.int .u16 (L : Int)) := (h.cx 0 (by omega)).1
theorem Rt.c1 (h : Rt w g L n E) : w.cell? ⟨g, 1, none⟩ = some (.int .i64 (n : Int)) := (h.cx 1 (by omega)).1
theorem Rt.c2 (h : Rt w g L n E) : w.cell? ⟨g, 2, none⟩ = some (.int .u32 (E : Int)) := (h.cx 2 (by omega)).1
theorem Rt.z0 (h : Rt w g L n E) : w.frozen? ⟨g, 0, none⟩ = false := (h.cx 0 (by omega)).2
theorem Rt.z1 (h : Rt w g L n E) : w.frozen? ⟨g, 1, none⟩ = false := (h.cx 1 (by omega)).2
theorem Rt.z2 (h : Rt w g L n E) : w.frozen? ⟨g, 2, none⟩ = false := (h.cx 2 (by omega)).2
end

set_option maxHeartbeats 1600000 in
theorem enew (w : World) :
    Calls Try.prog 9 #[] w fun e w' => ∃ g, e = .returned (.pointer (some ⟨g, 0, none⟩)) ∧ w.heap.size ≤ g ∧ Ek w' g 0 0 0 false ∧ Below w.heap.size w w' := by
  go_enter Try.func9, Try.ntmps9
  go_wp2_with fail
  go_ret
  refine ⟨_, rfl, Nat.le_refl _, ⟨?_, fun h => (by cases h), by decide⟩, (Below.refl _ _).alloc (Nat.le_refl _) _⟩
  exact Cx.new w 1 (ekF 0 false) _

set_option maxHeartbeats 1600000 in
theorem eth (q s t x : Nat) (w : World) (h : Cx w q 2 (tkF s t)) (hx : x < 18446744073709551616) :
    Calls Try.prog 20 #[.pointer (some ⟨q, 0, none⟩), .int .u64 (x : Int)] w fun e w' => e = .returned (.int .u64 ((x - t : Nat) : Int)) ∧ w' = w := by
  have c1 : w.cell? ⟨q, 1, none⟩ = some (.int .u64 (t : Int)) := (h 1 (by omega)).1
  obtain ⟨m, hm⟩ : ∃ m, min x t = m := ⟨_, rfl⟩
  have h1 := Lib.hid (show min (x : Int) (t : Int) = (m : Int) by omega)
  have h2 := Lib.hid (show IntKind.u64.wrap ((x : Int) - (m : Int)) = ((x - t : Nat) : Int) by rw [IntKind.wrap_u64]; omega)
  clear hm hx h
  go_enter Try.func20, Try.ntmps20
  go_wp2_with fail
  rw [h1.out]
  go_ret
  exact ⟨ret_of h2.out, rfl⟩

set_option maxHeartbeats 1600000 in
theorem eheld (g q s t : Nat) (z : Bool) (x : Nat) (w : World) (h : Ek w g q s t z) (hx : x < 18446744073709551616) :
    Calls Try.prog 10 #[.pointer (some ⟨g, 0, none⟩), .int .u64 (x : Int)] w fun e w' => e = .returned (.tuple #[.int .u64 (hdE t z x : Nat), .bool z]) ∧ w' = w := by
  have c := h.c
  cases z with
  | false =>
    rw [show hdE t false x = 0 from rfl]
    simp only [Bool.false_eq_true, if_false] at c
    clear h hx
    go_enter Try.func10, Try.ntmps10
    go_wp2_with fail
    go_ret2
    exact ⟨rfl, rfl⟩
  | true =>
    rw [show hdE t true x = x - t from rfl]
    simp only [if_true] at c
    have H := Lib.hid (h.tk rfl)
    have HX := Lib.hid hx
    clear h hx
    go_enter Try.func10, Try.ntmps10
    go_wp2_with fail
    refine (eth q s t x _ H.out HX.out).mono ?_
    rintro e w1 ⟨rfl, rfl⟩
    go_wp2_with fail
    go_ret2
    exact ⟨rfl, rfl⟩

set_option maxHeartbeats 1600000 in
theorem eheld_nil (x : Nat) (w : World) :
    Calls Try.prog 10 #[.pointer none, .int .u64 (x : Int)] w fun e w' => e = .returned (.tuple #[.int .u64 0, .bool false]) ∧ w' = w := by
  go_enter Try.func10, Try.ntmps10
  go_wp2_with fail
  go_ret2
  exact ⟨rfl, rfl⟩

set_option maxHeartbeats 1600000 in
theorem etake (g q0 s0 t0 : Nat) (z : Bool) (s t : Nat) (w : World) (h : Ek w g q0 s0 t0 z) (hs : s < 65536) (ht : t < 18446744073709551616) :
    Calls Try.prog 12 #[.pointer (some ⟨g, 0, none⟩), .int .u16 (s : Int), .int .u64 (t : Int)] w fun e w' => ∃ q, e = .returned (.tuple #[]) ∧ w.heap.size ≤ q ∧ Ek w' g q s t true ∧ But (On g) w w' := by
  have HC := Lib.hid h.cx
  have HL := Lib.hid h.lt
  have HT := Lib.hid (And.intro hs ht)
  have hB := (Below.refl w.heap.size w).alloc (Nat.le_refl _) (.cells #[.int .u16 (s : Int), .int .u64 (t : Int)] 58)
  have h2 := h.to hB
  have z0 := h2.fz
  have c := h2.c
  obtain ⟨p0, hp0⟩ : ∃ p0, (if z = true then some (⟨q0, 0, none⟩ : Addr) else none) = p0 := ⟨_, rfl⟩
  rw [hp0] at c
  clear hp0 h2 h hs ht hB
  go_enter Try.func12, Try.ntmps12
  go_wp2_with fail
  go_end0
  have hl := HL.out
  have hB := (Below.refl w.heap.size w).alloc (Nat.le_refl _) (.cells #[.int .u16 (s : Int), .int .u64 (t : Int)] 58)
  have hC : Cx (w.alloc (.cells #[.int .u16 (s : Int), .int .u64 (t : Int)] 58)) w.heap.size 2 (tkF s t) := Cx.new w 2 (tkF s t) _
  refine ⟨_, rfl, Nat.le_refl _, ⟨(((HC.out.to (by omega) hB).set _ (by omega)).ext (fun j hj => ?_)), fun _ => hC.far (p := ⟨g, 0, none⟩) (show g ≠ w.heap.size by omega) _, HT.out⟩, (But.of hB).put 0 _⟩
  obtain rfl : j = 0 := by omega
  rfl

set_option maxHeartbeats 1600000 in
theorem etake_nil (s t : Nat) (w : World) :
    Calls Try.prog 12 #[.pointer none, .int .u16 (s : Int), .int .u64 (t : Int)] w fun e w' => e = .returned (.tuple #[]) ∧ w' = w := by
  go_enter Try.func12, Try.ntmps12
  go_wp2_with fail
  go_end0
  exact ⟨rfl, rfl⟩

set_option maxHeartbeats 1600000 in
theorem ereply (g q s t : Nat) (z : Bool) (x : Nat) (w : World) (h : Ek w g q s t z) (hx : x < 18446744073709551616) :
    Calls Try.prog 13 #[.pointer (some ⟨g, 0, none⟩), .int .u64 (x : Int)] w fun e w' => e = .returned (.int .u16 (rpE s t z x : Nat)) ∧ Ek w' g q s t false ∧ But (On g) w w' := by
  have c := h.c
  have zf := h.fz
  have H := Lib.hid h
  have HX := Lib.hid hx
  cases z with
  | false =>
    clear h hx c zf
    rw [show rpE s t false x = 65535 from rfl]
    go_enter Try.func13, Try.ntmps13
    go_wp2_with fail
    refine (eheld g q s t _ x _ H.out HX.out).mono ?_
    rintro e w1 ⟨rfl, rfl⟩
    rw [show hdE t false x = 0 from rfl]
    go_wp2_with fail
    go_ret
    exact ⟨rfl, H.out, But.refl _ _⟩
  | true =>
    simp only [if_true] at c
    have c0 := h.c0
    have HS := Lib.hid h.top.1
    rw [show rpE s t true x = ecN s (x - t) from rfl]
    obtain ⟨d, hd⟩ : ∃ d, x - t = d := ⟨_, rfl⟩
    have HD := Lib.hid (show d < 18446744073709551616 by omega)
    have HE := Lib.hid (show hdE t true x = d from hd)
    rw [hd]
    clear h hx hd
    go_enter Try.func13, Try.ntmps13
    go_wp2_with fail
    refine (eheld g q s t _ x _ H.out HX.out).mono ?_
    rintro e w1 ⟨rfl, rfl⟩
    rw [HE.out]
    go_wp2_with fail
    refine (stecho s d _ HS.out HD.out).mono ?_
    rintro e w1 ⟨rfl, rfl⟩
    go_wp2_with fail
    go_ret
    refine ⟨rfl, ⟨(H.out.cx.set _ (by omega)).ext (fun j hj => ?_), fun e => (by cases e), H.out.top⟩, (But.refl _ _).put 0 _⟩
    obtain rfl : j = 0 := by omega
    rfl

set_option maxHeartbeats 1600000 in
theorem ereply_nil (x : Nat) (w : World) :
    Calls Try.prog 13 #[.pointer none, .int .u64 (x : Int)] w fun e w' => e = .returned (.int .u16 65535) ∧ w' = w := by
  go_enter Try.func13, Try.ntmps13
  go_wp2_with fail
  refine (eheld_nil x _).mono ?_
  rintro e w1 ⟨rfl, rfl⟩
  go_wp2_with fail
  go_ret
  exact ⟨rfl, rfl⟩
theorem add_facts (E s : Nat) (h : E ≤ 524287) (hs : s < 65536) : ∃ A D G R : Nat, IntKind.u32.wrap ((E : Int) + 4) = (A : Int) ∧ (A : Int).tdiv 8 = (D : Int) ∧ IntKind.u32.wrap ((E : Int) - (D : Int)) = (G : Int) ∧ IntKind.u32.wrap ((G : Int) + (s : Int)) = (R : Int) ∧ IntKind.u32.wrap (D : Int) = (D : Int) ∧ E - (E + 4) / 8 + s = R := by
  refine ⟨E + 4, (E + 4) / 8, E - (E + 4) / 8, E - (E + 4) / 8 + s, ?_, ?_, ?_, ?_, ?_, rfl⟩
  · rw [IntKind.wrap_u32]; omega
  · rw [Int.tdiv_eq_ediv_of_nonneg (by omega)]; omega
  · rw [IntKind.wrap_u32]; omega
  · rw [IntKind.wrap_u32]; omega
  · rw [IntKind.wrap_u32]; omega

set_option maxHeartbeats 1600000 in
theorem radd (g L n E s : Nat) (w : World) (h : Rt w g L n E) (hn : n < 4611686018427387904) (hs : s < 65536) :
    Calls Try.prog 15 #[.pointer (some ⟨g, 0, none⟩), .int .u16 (s : Int)] w fun e w' => e = .returned (.tuple #[]) ∧ Rt w' g s (n + 1) (esN n E s) ∧ But (On g) w w' := by
  have HE := Lib.hid (esN_le (n := n) h.top hs)
  have HC := Lib.hid h.cx
  have c0 := h.c0
  have c1 := h.c1
  have c2 := h.c2
  have z0 := h.z0
  have z1 := h.z1
  have z2 := h.z2
  have a1 := Lib.hid (show wrap64 ((n : Int) + 1) = ((n + 1 : Nat) : Int) by rw [IntWalk.wrap64_in _ (by omega)]; omega)
  by_cases h0 : n = 0
  · subst h0
    have a2 := Lib.hid (show IntKind.u32.wrap (8 * (s : Int)) = ((8 * s : Nat) : Int) by rw [IntKind.wrap_u32]; omega)
    rw [show esN 0 E s = 8 * s from rfl] at HE ⊢
    clear h hn hs
    go_enter Try.func15, Try.ntmps15
    go_wp2_with fail
    try rw [a2.out]
    go_end0
    refine ⟨rfl, ⟨(((HC.out.set _ (by omega)).set _ (by omega)).set _ (by omega)).ext (fun j hj => ?_), HE.out⟩, (((But.refl _ _).put 2 _).put 0 _).put 1 _⟩
    have hj3 : j = 0 ∨ j = 1 ∨ j = 2 := by omega
    rcases hj3 with rfl | rfl | rfl
    · rfl
    · rfl
    · have := HE.out
      show Value.int .u32 (8 * ((s : Int) % 4294967296) % 4294967296) = .int .u32 ((8 * s : Nat) : Int)
      congr 1
      omega
  · have i1 : ((n : Int) == 0) = false := by simp [h0]
    obtain ⟨A, D, G, R, b1, b2, b3, b4, b5, b6⟩ := add_facts E s h.top hs
    rw [show esN n E s = R from (if_neg h0).trans b6] at HE ⊢
    clear h hn hs h0 b6
    go_enter Try.func15, Try.ntmps15
    go_wp2_with fail
    go_region
    all_goals (go_wp2_with fail; go_end0; refine ⟨rfl, ⟨((((HC.out.set _ (by omega)).drew).set _ (by omega)).set _ (by omega)).ext (fun j hj => ?_), HE.out⟩, ((((But.refl _ _).put 2 _).drew).put 0 _).put 1 _⟩; have hj3 : j = 0 ∨ j = 1 ∨ j = 2 := (by omega); rcases hj3 with rfl | rfl | rfl <;> first | rfl | (show Value.int .i64 (wrap64 ((n : Int) + 1)) = .int .i64 ((n + 1 : Nat) : Int); rw [a1.out]) | (show Value.int .u32 (((G : Int) + (s : Int)) % 4294967296) = .int .u32 (R : Int); rw [IntKind.wrap_u32] at b4; rw [b4]))

set_option maxHeartbeats 1600000 in
theorem rlast (g L n E : Nat) (w : World) (h : Rt w g L n E) :
    Calls Try.prog 16 #[.pointer (some ⟨g, 0, none⟩)] w fun e w' => e = .returned (.tuple #[.int .u16 (L : Int), .bool (decide (0 < n))]) ∧ Below w.heap.size w w' := by
  have c0 := h.c0
  have c1 := h.c1
  clear h
  go_enter Try.func16, Try.ntmps16
  go_wp2_with fail
  go_region
  all_goals (go_wp2_with fail; go_ret2; exact ⟨rfl, (Below.refl _ _).drew⟩)

set_option maxHeartbeats 1600000 in
theorem rlast_nil (w : World) :
    Calls Try.prog 16 #[.pointer none] w fun e w' => e = .returned (.tuple #[.int .u16 0, .bool false]) ∧ w' = w := by
  go_enter Try.func16, Try.ntmps16
  go_wp2_with fail
  go_ret2
  exact ⟨rfl, rfl⟩

set_option maxHeartbeats 1600000 in
theorem rcount (g L n E : Nat) (w : World) (h : Rt w g L n E) :
    Calls Try.prog 17 #[.pointer (some ⟨g, 0, none⟩)] w fun e w' => e = .returned (.int .i64 (n : Int)) ∧ w' = w := by
  have c1 := h.c1
  have c2 := h.c2
  clear h
  go_enter Try.func17, Try.ntmps17
  go_wp2_with fail
  go_ret
  exact ⟨rfl, rfl⟩

set_option maxHeartbeats 1600000 in
theorem rcount_nil (w : World) :
    Calls Try.prog 17 #[.pointer none] w fun e w' => e = .returned (.int .i64 0) ∧ w' = w := by
  go_enter Try.func17, Try.ntmps17
  go_wp2_with fail
  go_ret
  exact ⟨rfl, rfl⟩

set_option maxHeartbeats 1600000 in
theorem rest (g L n E : Nat) (w : World) (h : Rt w g L n E) :
    Calls Try.prog 18 #[.pointer (some ⟨g, 0, none⟩)] w fun e w' => e = .returned (.int .u32 (E : Int)) ∧ w' = w := by
  have c1 := h.c1
  have c2 := h.c2
  clear h
  go_enter Try.func18, Try.ntmps18
  go_wp2_with fail
  go_ret
  exact ⟨rfl, rfl⟩

set_option maxHeartbeats 1600000 in
theorem rest_nil (w : World) :
    Calls Try.prog 18 #[.pointer none] w fun e w' => e = .returned (.int .u32 0) ∧ w' = w := by
  go_enter Try.func18, Try.ntmps18
  go_wp2_with fail
  go_ret
  exact ⟨rfl, rfl⟩

set_option maxHeartbeats 1600000 in
theorem radd_nil (s : Nat) (w : World) :
    Calls Try.prog 15 #[.pointer none, .int .u16 (s : Int)] w fun e w' => e = .returned (.tuple #[]) ∧ w' = w := by
  go_enter Try.func15, Try.ntmps15
  go_wp2_with fail
  refine bodyPost_ret (results_none rfl _ _ _) rfl ?_
  exact ⟨rfl, rfl⟩
end Go.Proofs.Ytmfmcbghofcafaa
