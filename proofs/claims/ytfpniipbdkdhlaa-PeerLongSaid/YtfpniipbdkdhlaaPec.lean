/-
  Peers in memory: the address, the number of moves, the map, or no map (a fixed peer). Contracts of package peer, each by a walk through its text.
-/
import Derived.Test.YtfpniipbdkdhlaaPeb
import Derived.Laws.Cover3
import Derived.Deep.Cut
namespace Go.Proofs.Ytfpniipbdkdhlaa
open Go.RowKit Go.MapKept
set_option linter.unusedVariables false
set_option linter.unusedSimpArgs false
set_option maxRecDepth 100000

def peF (A : ByteArray) (k : Nat) (q : Option Nat) : Nat → Value
  | 0 => .string A | 1 => .int .i64 (k : Int) | _ => .map q
/-- A peer in block g: its address, its moves, its map in block m (or none: z is false), which counts as c does; of no number there is more than n. -/
structure Pe (w : World) (g m : Nat) (A : ByteArray) (k n : Nat) (c : ByteArray → Nat) (z : Bool) : Prop where
  cx : Cx w g 3 (peF A k (if z then some m else none))
  mp : z = true → Mp w m c
  few : k ≤ n ∧ ∀ s, c s ≤ n
  len : A.size ≤ 9223372036854775807
/-- Is it nobody's? -/
def emA (A : ByteArray) : Bool := decide (A.size = 0)
/-- Where a peer is behind an address that is moved to. -/
def atP (A s : ByteArray) : ByteArray := if okA s then s else A
/-- Is it a move? -/
def isM (A s : ByteArray) : Bool := okA s && !decide (s = A)
def kP (A s : ByteArray) (k : Nat) : Nat := if isM A s then k + 1 else k
def cP (c : ByteArray → Nat) (s : ByteArray) : ByteArray → Nat := if okA s then upC c s else c
section
variable {w w' : World} {g m k n : Nat} {A : ByteArray} {c : ByteArray → Nat} {z : Bool} {S : Nat → Prop}
theorem Pe.lt (h : Pe w g m A k n c z) : g < w.heap.size := h.cx.lt (by omega)
theorem Pe.ltm (h : Pe w g m A k n c true) : m < w.heap.size := (h.mp rfl).lt
theorem Pe.c0 (h : Pe w g m A k n c z) : w.cell? ⟨g, 0, none⟩ = some (.string A) := (h.cx 0 (by omega)).1
theorem Pe.c1 (h : Pe w g m A k n c z) : w.cell? ⟨g, 1, none⟩ = some (.int .i64 (k : Int)) := (h.cx 1 (by omega)).1
theorem Pe.c2 (h : Pe w g m A k n c z) : w.cell? ⟨g, 2, none⟩ = some (.map (if z then some m else none)) := (h.cx 2 (by omega)).1
theorem Pe.z0 (h : Pe w g m A k n c z) : w.frozen? ⟨g, 0, none⟩ = false := (h.cx 0 (by omega)).2
theorem Pe.z1 (h : Pe w g m A k n c z) : w.frozen? ⟨g, 1, none⟩ = false := (h.cx 1 (by omega)).2
theorem Pe.ne (h : Pe w g m A k n c true) : m ≠ g := by
  rintro rfl
  have h1 := h.c0
  obtain ⟨es, clock, hb, _⟩ := h.mp rfl
  simp [World.cell?, hb] at h1
theorem Pe.but (h : Pe w g m A k n c z) (hb : Buc S w w') (hs : ¬ S g) (hm : z = true → ¬ S m) : Pe w' g m A k n c z := ⟨h.cx.buc hb hs, fun e => (h.mp e).blk (hb.block m (h.mp e).lt (hm e)), h.few, h.len⟩
theorem Pe.to (h : Pe w g m A k n c z) (hb : Below w.heap.size w w') : Pe w' g m A k n c z := ⟨h.cx.to (by omega) hb, fun e => (h.mp e).blk (hb.block m (h.mp e).lt), h.few, h.len⟩
theorem Pe.drew (h : Pe w g m A k n c z) : Pe w.drew g m A k n c z := ⟨h.cx, fun e => (h.mp e).blk rfl, h.few, h.len⟩
theorem Pe.more (h : Pe w g m A k n c z) {n' : Nat} (hn : n ≤ n') : Pe w g m A k n' c z := ⟨h.cx, h.mp, ⟨Nat.le_trans h.few.1 hn, fun s => Nat.le_trans (h.few.2 s) hn⟩, h.len⟩
end
theorem run_eql_map (w : World) (q : Option Nat) : (binOp .eql 40 (.map q) (.map none)).run Try.prog w = .ok (.bool q.isNone) w := by
  simp only [binOp]
  simp [run_equal_map_nil w _ _ _ q Try.underlying40]
theorem plA_len {s : ByteArray} : (plA s).size ≤ 9223372036854775807 := by
  cases h : okA s with
  | false => rw [plA_no h]; decide
  | true => rw [plA_ok h]; have := okA_size h; omega

set_option maxHeartbeats 1600000 in
theorem pclone (s : ByteArray) (w : World) (h : s.size ≤ 281474976710656) :
    Calls Try.prog 26 #[.string s] w fun e w' => e = .returned (.string s) ∧ Below w.heap.size w w' := by
  have H := Lib.hid h
  clear h
  go_enter Try.func26, Try.ntmps26
  go_wp2_with fail
  refine (Try.stringslite_Clone s _ H.out).mono ?_
  rintro e w1 ⟨rfl, hB⟩
  go_wp2_with fail
  go_ret
  exact ⟨rfl, hB⟩

set_option maxHeartbeats 1600000 in
theorem pnob (A : ByteArray) (w : World) :
    Calls Try.prog 22 #[.agg #[.string A]] w fun e w' => e = .returned (.bool (emA A)) ∧ Below w.heap.size w w' := by
  by_cases h : A.size = 0
  · obtain ⟨e0, e1⟩ := emp_yes h
    rw [show emA A = true from decide_eq_true h]
    clear h
    go_enter Try.func22, Try.ntmps22
    go_wp2_with fail
    go_ret
    exact ⟨rfl, (Below.refl _ _).alloc (Nat.le_refl _) _⟩
  · obtain ⟨e0, e1⟩ := emp_no h
    rw [show emA A = false from decide_eq_false h]
    clear h
    go_enter Try.func22, Try.ntmps22
    go_wp2_with fail
    go_ret
    exact ⟨rfl, (Below.refl _ _).alloc (Nat.le_refl _) _⟩

set_option maxHeartbeats 1600000 in
theorem pplaced (s : ByteArray) (w : World) :
    Calls Try.prog 20 #[.string s] w fun e w' => e = .returned (.agg #[.string (plA s)]) ∧ Below w.heap.size w w' := by
  obtain ⟨dK, hu, hd⟩ := row_of (show (Try.prog.underlying 38).map (·.isRow) = some true by kernel_rfl)
  have HU := Lib.hid hu
  clear hu
  obtain ⟨w1, hw1⟩ : ∃ V : World, V = w.alloc (.cells #[.string ⟨#[]⟩] 38) := ⟨_, rfl⟩
  have hB1 : Below w.heap.size w w1 := by rw [hw1]; exact (Below.refl _ _).alloc (Nat.le_refl _) _
  have hC1 : Cx w1 w.heap.size 1 (fun _ => .string ⟨#[]⟩) := by rw [hw1]; exact Cx.new w 1 (fun _ => .string ⟨#[]⟩) _
  obtain ⟨z, hz⟩ : ∃ z, okA s = z := ⟨_, rfl⟩
  have HZ := Lib.hid hz
  clear hz
  cases z with
  | false =>
    rw [plA_no HZ.out]
    go_enter Try.func20, Try.ntmps20
    go_wp2_with fail
    rw [← hw1]
    clear hw1
    refine (pright s _).mono ?_
    rintro e w2 ⟨rfl, hq⟩
    have hB2 := hB1.trans (hq.mono hB1.size)
    have hC2 := hC1.to (by omega) hq
    clear hB1 hC1 hq
    rw [HZ.out]
    have HL := Lib.hid hC2
    have k0 := (hC2 0 (by omega)).1
    have k1 := (hC2 0 (by omega)).2
    clear hC2
    go_wp2_with fail
    refine bodyPost_ret (v := .agg #[.string ⟨#[]⟩]) (results_cx (n := 1) rfl rfl (c := fun _ => .string (⟨#[]⟩)) ?_ HU.out hd (by rw [cxL_len]; kernel_rfl)) rfl ⟨rfl, hB2.setCell (Nat.le_refl _) _⟩
    exact (HL.out.set _ (by omega)).ext (fun j hj => by obtain rfl : j = 0 := (by omega); rfl)
  | true =>
    rw [plA_ok HZ.out]
    go_enter Try.func20, Try.ntmps20
    go_wp2_with fail
    rw [← hw1]
    clear hw1
    refine (pright s _).mono ?_
    rintro e w2 ⟨rfl, hq⟩
    have hB2 := hB1.trans (hq.mono hB1.size)
    have hC2 := hC1.to (by omega) hq
    clear hB1 hC1 hq
    rw [HZ.out]
    have HL := Lib.hid hC2
    have k0 := (hC2 0 (by omega)).1
    have k1 := (hC2 0 (by omega)).2
    clear hC2
    go_wp2_with fail
    refine (pclone s _ (by have := okA_size HZ.out; omega)).mono ?_
    rintro e w3 ⟨rfl, hq⟩
    have hB3 := hB2.trans (hq.mono hB2.size)
    have hC3 := HL.out.to (by omega) hq
    clear k0 k1
    have k0 := (hC3 0 (by omega)).1
    have k1 := (hC3 0 (by omega)).2
    go_wp2_with fail
    refine bodyPost_ret (v := .agg #[.string s]) (results_cx (n := 1) rfl rfl (c := fun _ => .string (s)) ?_ HU.out hd (by rw [cxL_len]; kernel_rfl)) rfl ⟨rfl, hB3.setCell (Nat.le_refl _) _⟩
    exact (hC3.set _ (by omega)).ext (fun j hj => by obtain rfl : j = 0 := (by omega); rfl)

set_option maxHeartbeats 1600000 in
theorem pfix (g m : Nat) (A : ByteArray) (k n : Nat) (c : ByteArray → Nat) (z : Bool) (w : World) (h : Pe w g m A k n c z) :
    Calls Try.prog 21 #[.pointer (some ⟨g, 0, none⟩)] w fun e w' => e = .returned (.bool (!z)) ∧ w' = w := by
  have c2 := h.c2
  have hmn := fun V => run_eql_map V (if z then some m else none)
  clear h
  cases z with
  | false =>
    simp only [if_true, Bool.false_eq_true, if_false] at c2 hmn
    go_enter Try.func21, Try.ntmps21
    go_wp2_with fail
    go_ret
    exact ⟨rfl, rfl⟩
  | true =>
    simp only [if_true, Bool.false_eq_true, if_false] at c2 hmn
    go_enter Try.func21, Try.ntmps21
    go_wp2_with fail
    go_ret
    exact ⟨rfl, rfl⟩

set_option maxHeartbeats 1600000 in
theorem pfix_nil (w : World) :
    Calls Try.prog 21 #[.pointer none] w fun e w' => e = .returned (.bool true) ∧ w' = w := by
  go_enter Try.func21, Try.ntmps21
  go_wp2_with fail
  go_ret
  exact ⟨rfl, rfl⟩

set_option maxHeartbeats 1600000 in
theorem pnew (s : ByteArray) (w : World) :
    Calls Try.prog 9 #[.string s] w fun e w' => ∃ g m, e = .returned (.pointer (some ⟨g, 0, none⟩)) ∧ w.heap.size ≤ g ∧ w.heap.size ≤ m ∧ Pe w' g m (plA s) 0 0 (fun _ => 0) true ∧ Below w.heap.size w w' := by
  have hmm := @run_makeMap Try.prog
  go_enter Try.func9, Try.ntmps9
  go_wp2_with fail
  refine (pplaced s _).mono ?_
  rintro e w1 ⟨rfl, hB⟩
  obtain ⟨X, hX⟩ : ∃ X, plA s = X := ⟨_, rfl⟩
  have HX := Lib.hid (show X.size ≤ 9223372036854775807 by rw [← hX]; exact plA_len)
  rw [hX]
  have HXE := Lib.hid hX
  clear hX
  go_wp2_with fail
  go_ret
  have hB2 := hB.alloc hB.size (.map #[] 0)
  have h9 : w.heap.size ≤ (w1.alloc (.map #[] 0)).heap.size := hB2.size
  have hs9 : (w1.alloc (.map #[] 0)).heap.size = w1.heap.size + 1 := by simp
  refine ⟨_, w1.heap.size, rfl, (by omega), hB.size, ⟨?_, fun _ => ?_, ⟨Nat.le_refl _, fun _ => Nat.le_refl _⟩, by rw [HXE.out]; exact HX.out⟩, hB2.alloc h9 _⟩
  · rw [HXE.out]; have hC := Cx.new (w1.alloc (.map #[] 0)) 3 (peF X 0 (some w1.heap.size)) 42; rw [hs9] at hC; exact hC
  · exact (Mp.new w1).blk (Below.heap_alloc _ _ _ (by omega))

set_option maxHeartbeats 1600000 in
theorem pfixn (s : ByteArray) (w : World) :
    Calls Try.prog 10 #[.string s] w fun e w' => ∃ g, e = .returned (.pointer (some ⟨g, 0, none⟩)) ∧ w.heap.size ≤ g ∧ Pe w' g 0 (plA s) 0 0 (fun _ => 0) false ∧ Below w.heap.size w w' := by
  go_enter Try.func10, Try.ntmps10
  go_wp2_with fail
  refine (pplaced s _).mono ?_
  rintro e w1 ⟨rfl, hB⟩
  obtain ⟨X, hX⟩ : ∃ X, plA s = X := ⟨_, rfl⟩
  have HX := Lib.hid (show X.size ≤ 9223372036854775807 by rw [← hX]; exact plA_len)
  rw [hX]
  have HXE := Lib.hid hX
  clear hX
  go_wp2_with fail
  go_ret
  refine ⟨_, rfl, hB.size, ⟨?_, fun e => (by cases e), ⟨Nat.le_refl _, fun _ => Nat.le_refl _⟩, by rw [HXE.out]; exact HX.out⟩, hB.alloc hB.size _⟩
  rw [HXE.out]; exact Cx.new _ 3 (peF X 0 none) _

set_option maxHeartbeats 1600000 in
theorem pmoves (g m : Nat) (A : ByteArray) (k n : Nat) (c : ByteArray → Nat) (z : Bool) (w : World) (h : Pe w g m A k n c z) :
    Calls Try.prog 15 #[.pointer (some ⟨g, 0, none⟩)] w fun e w' => e = .returned (.int .i64 (k : Int)) ∧ w' = w := by
  have c1 := h.c1
  clear h
  go_enter Try.func15, Try.ntmps15
  go_wp2_with fail
  go_ret
  exact ⟨rfl, rfl⟩

set_option maxHeartbeats 1600000 in
theorem pmoves_nil (w : World) :
    Calls Try.prog 15 #[.pointer none] w fun e w' => e = .returned (.int .i64 0) ∧ w' = w := by
  go_enter Try.func15, Try.ntmps15
  go_wp2_with fail
  go_ret
  exact ⟨rfl, rfl⟩

set_option maxHeartbeats 1600000 in
theorem pmet (g m : Nat) (A : ByteArray) (k n : Nat) (c : ByteArray → Nat) (z : Bool) (s : ByteArray) (w : World) (h : Pe w g m A k n c z) (hs : s.size ≤ 9223372036854775807) :
    Calls Try.prog 16 #[.pointer (some ⟨g, 0, none⟩), .string s] w fun e w' => e = .returned (.int .i64 ((if z then c s else 0 : Nat) : Int)) ∧ w' = w := by
  have c2 := h.c2
  cases z with
  | false =>
    simp only [Bool.false_eq_true, if_false] at c2 ⊢
    have hlk := fun V => look_nil V hs
    simp only [kyV] at hlk
    clear h
    go_enter Try.func16, Try.ntmps16
    go_wp2_with fail
    go_ret
    exact ⟨rfl, rfl⟩
  | true =>
    simp only [if_true] at c2 ⊢
    have hlk := look_at (h.mp rfl) hs
    simp only [kyV] at hlk
    obtain ⟨x, hx⟩ : ∃ x, c s = x := ⟨_, rfl⟩
    rw [hx] at hlk
    rw [hx]
    clear h hx
    go_enter Try.func16, Try.ntmps16
    go_wp2_with fail
    go_ret
    exact ⟨rfl, rfl⟩

set_option maxHeartbeats 1600000 in
theorem pmet_nil (s : ByteArray) (w : World) :
    Calls Try.prog 16 #[.pointer none, .string s] w fun e w' => e = .returned (.int .i64 0) ∧ w' = w := by
  go_enter Try.func16, Try.ntmps16
  go_wp2_with fail
  go_ret
  exact ⟨rfl, rfl⟩

set_option maxHeartbeats 1600000 in
theorem paddr (g m : Nat) (A : ByteArray) (k n : Nat) (c : ByteArray → Nat) (z : Bool) (w : World) (h : Pe w g m A k n c z) :
    Calls Try.prog 14 #[.pointer (some ⟨g, 0, none⟩)] w fun e w' => e = .returned (.tuple #[.string A, .bool (!emA A)]) ∧ Below w.heap.size w w' := by
  obtain ⟨q, hq9⟩ : ∃ q, (if z = true then some m else none) = q := ⟨_, rfl⟩
  have HC := Lib.hid h.cx
  rw [hq9] at HC
  clear hq9 h
  go_enter Try.func14, Try.ntmps14
  go_wp2_with fail
  refine wp_region_held_drew (S := fun W => Cx W g 3 (peF A k q) ∧ Below w.heap.size w W) (by kernel_rfl) ⟨HC.out.drew, (Below.refl w.heap.size w).drew⟩ (fun hHeld => ?_)
  generalize World.drew w = ad at *
  refine wpAnyH_take (i := 0) (v := ?va1) rfl (by kernel_rfl) (by kernel_rfl) (by kernel_rfl) (fun _ _ _ h => h) (Or.inl ⟨by rfl, ?hya1⟩) (by assumption) ?resta1
  case hya1 =>
    intro W hSw
    go_simp
    try with_reducible rfl
  simp only [Act.put, List.setIfInBounds_toArray, List.set_cons_zero, List.set_cons_succ, List.getElem_toArray, List.getElem_cons_zero]
  refine wpAnyH_take (i := 1) (v := ?va2) rfl (by kernel_rfl) (by kernel_rfl) (by kernel_rfl) (fun _ _ _ h => h) (Or.inl ⟨by rfl, ?hya2⟩) (by assumption) ?resta2
  case hya2 =>
    intro W hSw
    go_simp
    try with_reducible rfl
  simp only [Act.put, List.setIfInBounds_toArray, List.set_cons_zero, List.set_cons_succ, List.getElem_toArray, List.getElem_cons_zero, List.getElem_cons_succ]
  refine wpAnyH_take (i := 2) (v := ?va3) rfl (by kernel_rfl) (by kernel_rfl) (by kernel_rfl) (fun _ _ _ h => h) (Or.inl ⟨by rfl, ?hya3⟩) (by assumption) ?resta3
  case hya3 =>
    intro W hSw
    go_simp
    try with_reducible rfl
  simp only [Act.put, List.setIfInBounds_toArray, List.set_cons_zero, List.set_cons_succ, List.getElem_toArray, List.getElem_cons_zero, List.getElem_cons_succ]
  refine wpAnyH_take (i := 3) (v := ?va4) rfl (by kernel_rfl) (by kernel_rfl) (by kernel_rfl) (fun _ _ _ h => h) (Or.inl ⟨by rfl, ?hya4⟩) (by assumption) ?resta4
  case hya4 =>
    intro W hSw
    go_simp
    try with_reducible rfl
  simp only [Act.put, List.setIfInBounds_toArray, List.set_cons_zero, List.set_cons_succ, List.getElem_toArray, List.getElem_cons_zero, List.getElem_cons_succ]
  refine wpAnyH_take (i := 4) (v := ?va5) rfl (by kernel_rfl) (by kernel_rfl) (by kernel_rfl) (fun _ _ _ h => h) (Or.inl ⟨by rfl, ?hya5⟩) (by assumption) ?resta5
  case hya5 =>
    intro W hSw
    have c0 : W.cell? ⟨g, 0, none⟩ = some (.string A) := (hSw.1 0 (by omega)).1
    go_simp
    try with_reducible rfl
  simp only [Act.put, List.setIfInBounds_toArray, List.set_cons_zero, List.set_cons_succ, List.getElem_toArray, List.getElem_cons_zero, List.getElem_cons_succ]
  refine wpAnyH_take (i := 5) (v := ?va6) rfl (by kernel_rfl) (by kernel_rfl) (by kernel_rfl) (fun _ _ _ h => h) (Or.inl ⟨by rfl, ?hya6⟩) (by assumption) ?resta6
  case hya6 =>
    intro W hSw
    go_simp
    try with_reducible rfl
  simp only [Act.put, List.setIfInBounds_toArray, List.set_cons_zero, List.set_cons_succ, List.getElem_toArray, List.getElem_cons_zero, List.getElem_cons_succ]
  refine wpAnyH_take (i := 6) (v := ?va7) rfl (by kernel_rfl) (by kernel_rfl) (by kernel_rfl) (fun _ _ _ h => h) (Or.inl ⟨by rfl, ?hya7⟩) (by assumption) ?resta7
  case hya7 =>
    intro W hSw
    go_simp
    try with_reducible rfl
  simp only [Act.put, List.setIfInBounds_toArray, List.set_cons_zero, List.set_cons_succ, List.getElem_toArray, List.getElem_cons_zero, List.getElem_cons_succ]
  refine wpAnyH_take (i := 7) (v := ?va8) rfl (by kernel_rfl) (by kernel_rfl) (by kernel_rfl) (fun _ _ _ h => h) (Or.inl ⟨by rfl, ?hya8⟩) (by assumption) ?resta8
  case hya8 =>
    intro W hSw
    go_simp
    try with_reducible rfl
  simp only [Act.put, List.setIfInBounds_toArray, List.set_cons_zero, List.set_cons_succ, List.getElem_toArray, List.getElem_cons_zero, List.getElem_cons_succ]
  refine wpAnyH_take (i := 8) (v := ?va9) rfl (by kernel_rfl) (by kernel_rfl) (by kernel_rfl) (fun _ _ _ h => h) (Or.inl ⟨by rfl, ?hya9⟩) (by assumption) ?resta9
  case hya9 =>
    intro W hSw
    have c0 : W.cell? ⟨g, 0, none⟩ = some (.string A) := (hSw.1 0 (by omega)).1
    go_simp
    try with_reducible rfl
  simp only [Act.put, List.setIfInBounds_toArray, List.set_cons_zero, List.set_cons_succ, List.getElem_toArray, List.getElem_cons_zero, List.getElem_cons_succ]
  refine wpAnyH_ready (rs := [9]) (by kernel_rfl) (by simp) ?_
  refine AllReadyH.cons rfl (fun K hK => ?_) AllReadyH.nil
  go_simp
  refine (pnob A _).mono ?_
  rintro e a10 ⟨rfl, hq⟩
  go_wp2_with fail
  refine hK.out _ _ ⟨(hHeld.1).to (by omega) hq, (hHeld.2).trans (hq.mono (hHeld.2).size)⟩ (fun hHeld2 => ?_)
  clear hK K hHeld hq
  have hHeld := hHeld2
  clear hHeld2
  try simp only [Act.put, List.setIfInBounds_toArray, List.set_cons_zero, List.set_cons_succ, List.getElem_toArray, List.getElem_cons_zero, List.getElem_cons_succ]
  refine wpAnyH_take (i := 10) (v := ?va11) rfl (by kernel_rfl) (by kernel_rfl) (by kernel_rfl) (fun _ _ _ h => h) (Or.inl ⟨by rfl, ?hya11⟩) (by assumption) ?resta11
  case hya11 =>
    intro W hSw
    go_simp
    try with_reducible rfl
  simp only [Act.put, List.setIfInBounds_toArray, List.set_cons_zero, List.set_cons_succ, List.getElem_toArray, List.getElem_cons_zero, List.getElem_cons_succ]
  refine wpAnyH_take (i := 11) (v := ?va12) rfl (by kernel_rfl) (by kernel_rfl) (by kernel_rfl) (fun _ _ _ h => h) (Or.inl ⟨by rfl, ?hya12⟩) (by assumption) ?resta12
  case hya12 =>
    intro W hSw
    go_simp
    try with_reducible rfl
  simp only [Act.put, List.setIfInBounds_toArray, List.set_cons_zero, List.set_cons_succ, List.getElem_toArray, List.getElem_cons_zero, List.getElem_cons_succ]
  refine wpAnyH_take (i := 12) (v := ?va13) rfl (by kernel_rfl) (by kernel_rfl) (by kernel_rfl) (fun _ _ _ h => h) (Or.inl ⟨by rfl, ?hya13⟩) (by assumption) ?resta13
  case hya13 =>
    intro W hSw
    go_simp
    try with_reducible rfl
  simp only [Act.put, List.setIfInBounds_toArray, List.set_cons_zero, List.set_cons_succ, List.getElem_toArray, List.getElem_cons_zero, List.getElem_cons_succ]
  refine wpAnyH_done (by kernel_rfl) ?_ _
  have hBe := hHeld.2
  clear hHeld
  go_wp2_with fail
  go_ret2
  exact ⟨rfl, hBe⟩

set_option maxHeartbeats 1600000 in
theorem paddr_nil (w : World) :
    Calls Try.prog 14 #[.pointer none] w fun e w' => e = .returned (.tuple #[.string ⟨#[]⟩, .bool false]) ∧ w' = w := by
  go_enter Try.func14, Try.ntmps14
  go_wp2_with fail
  go_ret2
  exact ⟨rfl, rfl⟩
end Go.Proofs.Ytfpniipbdkdhlaa
