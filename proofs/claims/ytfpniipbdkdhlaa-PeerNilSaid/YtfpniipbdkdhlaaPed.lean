/-
  Move: the contract of package peer's own method that writes, by a walk through its text.
-/
import Derived.Test.YtfpniipbdkdhlaaPec
namespace Go.Proofs.Ytfpniipbdkdhlaa
open Go.RowKit Go.MapKept
set_option linter.unusedVariables false
set_option linter.unusedSimpArgs false
set_option maxRecDepth 100000

theorem wp_look {P : Program} {o : Oper} {a : Act} {w : World} {K : Act → World → Prop} {Q : Exit → Act → World → Prop} (t : TypeId) (m x : Operand) (ho : o.op = .lookup t m x false) (mv xv v : Value) (hm : a.eval m = mv) (hx : a.eval x = xv)
    (hr : (Instr.lookup t mv xv false).run P w = .ok v w) (h : K (a.put o.dst v) w) : o.wp P a w K Q := by
  unfold Oper.wp execOp
  simp only [ho, hm, hx, Sem.run_bind, hr, Result.andThen_ok]
  exact h
theorem wp_entry {P : Program} {o : Oper} {a : Act} {w W : World} {K : Act → World → Prop} {Q : Exit → Act → World → Prop} (t : TypeId) (m x : Operand) (ho : o.op = .mapEntry t m x) (mv xv v : Value) (hm : a.eval m = mv) (hx : a.eval x = xv)
    (hr : (Instr.mapEntry t mv xv).run P w = .ok v W) (h : K (a.put o.dst v) W) : o.wp P a w K Q := by
  unfold Oper.wp execOp
  simp only [ho, hm, hx, Sem.run_bind, hr, Result.andThen_ok]
  exact h
theorem wp_estore {P : Program} {o : Oper} {a : Act} {w W : World} {K : Act → World → Prop} {Q : Exit → Act → World → Prop} (t : TypeId) (m s x : Operand) (ho : o.op = .entryStore t m s x) (mv sv xv : Value) (hm : a.eval m = mv) (hs : a.eval s = sv) (hx : a.eval x = xv)
    (hr : (Instr.entryStore t mv sv xv).run P w = .ok () W) (h : K (a.put o.dst undef) W) : o.wp P a w K Q := by
  unfold Oper.wp execOp
  simp only [ho, hm, hs, hx, Sem.run_bind, hr, Result.andThen_ok]
  exact h
theorem Mp.drew {w : World} {m : Nat} {c : ByteArray → Nat} (h : Mp w m c) : Mp w.drew m c := h.blk rfl
theorem Ms.blk {w W : World} {m st : Nat} {c : ByteArray → Nat} {s : ByteArray} (h : Ms w m c s st) (he : W.heap[m]? = w.heap[m]?) : Ms W m c s st := by obtain ⟨es, k, h1, h2⟩ := h; exact ⟨es, k, he.trans h1, h2⟩
theorem Buc.onm {g m : Nat} {w W W' : World} (h : Buc (Tw g m) w W) (k : Buc (On m) W W') : Buc (Tw g m) w W' := h.trans ⟨k.os, k.tape, k.output, k.size, fun i hi hs => k.block i hi (fun e => hs (.inr e))⟩
theorem eqT {a b : ByteArray} (h : a = b) : (a.toList == b.toList) = true := by rw [eq_str]; exact decide_eq_true h
theorem eqF {a b : ByteArray} (h : ¬ a = b) : (a.toList == b.toList) = false := by rw [eq_str]; exact decide_eq_false h
theorem em_ok {s : ByteArray} (h : okA s = true) : emA s = false := decide_eq_false (by have := okA_size h; omega)

set_option maxHeartbeats 1600000 in
theorem pmove_nil (s : ByteArray) (w : World) :
    Calls Try.prog 13 #[.pointer none, .string s] w fun e w' => e = .returned (.bool false) ∧ Below w.heap.size w w' := by
  obtain ⟨X, hX⟩ : ∃ X, plA s = X := ⟨_, rfl⟩
  have HX := Lib.hid hX
  go_enter Try.func13, Try.ntmps13
  go_wp2_with fail
  refine (pplaced s _).mono ?_
  rintro e w1 ⟨rfl, hq⟩
  rw [hX]
  clear hX
  obtain ⟨w2, hw2⟩ : ∃ V : World, V = w1.alloc (.cells #[.string X] 38) := ⟨_, rfl⟩
  obtain ⟨p, hp⟩ : ∃ p : Nat, w1.heap.size = p := ⟨_, rfl⟩
  have hT2 : Cx w2 p 1 (fun _ => .string X) := by rw [hw2, ← hp]; exact Cx.new w1 1 (fun _ => .string X) _
  have hlt : w.heap.size ≤ p := by rw [← hp]; exact hq.size
  have hq2 : Below w.heap.size w w2 := by rw [hw2]; exact hq.alloc hq.size _
  go_upto_region 2 with fail
  rw [← hw2]
  try rw [hp]
  clear hw2 hp hq
  go_wp2_with fail
  refine (pfix_nil _).mono ?_
  rintro e w9 ⟨rfl, hw9⟩
  rw [hw9]
  clear hw9 w9
  go_wp2_with fail
  go_ret
  exact ⟨rfl, hq2⟩

set_option maxHeartbeats 1600000 in
theorem pmove_fix (g m : Nat) (A : ByteArray) (k n : Nat) (c : ByteArray → Nat) (s : ByteArray) (w : World) (h : Pe w g m A k n c false) :
    Calls Try.prog 13 #[.pointer (some ⟨g, 0, none⟩), .string s] w fun e w' => e = .returned (.bool false) ∧ Below w.heap.size w w' := by
  obtain ⟨X, hX⟩ : ∃ X, plA s = X := ⟨_, rfl⟩
  have HX := Lib.hid hX
  go_enter Try.func13, Try.ntmps13
  go_wp2_with fail
  refine (pplaced s _).mono ?_
  rintro e w1 ⟨rfl, hq⟩
  rw [hX]
  clear hX
  obtain ⟨w2, hw2⟩ : ∃ V : World, V = w1.alloc (.cells #[.string X] 38) := ⟨_, rfl⟩
  obtain ⟨p, hp⟩ : ∃ p : Nat, w1.heap.size = p := ⟨_, rfl⟩
  have hT2 : Cx w2 p 1 (fun _ => .string X) := by rw [hw2, ← hp]; exact Cx.new w1 1 (fun _ => .string X) _
  have hlt : w.heap.size ≤ p := by rw [← hp]; exact hq.size
  have hq2 : Below w.heap.size w w2 := by rw [hw2]; exact hq.alloc hq.size _
  have h2 := h.to hq2
  go_upto_region 2 with fail
  rw [← hw2]
  try rw [hp]
  clear hw2 hp hq
  go_wp2_with fail
  refine (pfix g m A k n c false _ h2).mono ?_
  rintro e w9 ⟨rfl, hw9⟩
  rw [hw9]
  clear hw9 w9
  simp only [Bool.not_false]
  go_wp2_with fail
  go_ret
  exact ⟨rfl, hq2⟩

set_option maxHeartbeats 1600000 in
theorem pmove_no (g m : Nat) (A : ByteArray) (k n : Nat) (c : ByteArray → Nat) (s : ByteArray) (w : World) (h : Pe w g m A k n c true) (hs : okA s = false) :
    Calls Try.prog 13 #[.pointer (some ⟨g, 0, none⟩), .string s] w fun e w' => e = .returned (.bool false) ∧ Below w.heap.size w w' := by
  have HS := Lib.hid hs
  clear hs
  obtain ⟨X, hX⟩ : ∃ X, plA s = X := ⟨_, rfl⟩
  have HX := Lib.hid hX
  go_enter Try.func13, Try.ntmps13
  go_wp2_with fail
  refine (pplaced s _).mono ?_
  rintro e w1 ⟨rfl, hq⟩
  rw [hX]
  clear hX
  obtain ⟨w2, hw2⟩ : ∃ V : World, V = w1.alloc (.cells #[.string X] 38) := ⟨_, rfl⟩
  obtain ⟨p, hp⟩ : ∃ p : Nat, w1.heap.size = p := ⟨_, rfl⟩
  have hT2 : Cx w2 p 1 (fun _ => .string X) := by rw [hw2, ← hp]; exact Cx.new w1 1 (fun _ => .string X) _
  have hlt : w.heap.size ≤ p := by rw [← hp]; exact hq.size
  have hq2 : Below w.heap.size w w2 := by rw [hw2]; exact hq.alloc hq.size _
  have h2 := h.to hq2
  go_upto_region 2 with fail
  rw [← hw2]
  try rw [hp]
  clear hw2 hp hq
  go_wp2_with fail
  refine (pfix g m A k n c true _ h2).mono ?_
  rintro e w9 ⟨rfl, hw9⟩
  rw [hw9]
  clear hw9 w9
  simp only [Bool.not_true]
  have k0 := (hT2 0 (by omega)).1
  go_wp2_with fail
  refine (pnob X _).mono ?_
  rintro e w3 ⟨rfl, hq3⟩
  rw [show emA X = true by rw [← HX.out, plA_no HS.out]; rfl]
  go_wp2_with fail
  go_ret
  exact ⟨rfl, hq2.trans (hq3.mono hq2.size)⟩
theorem Mp.cell {w : World} {m : Nat} {c : ByteArray → Nat} (h : Mp w m c) {p : Addr} {u : Value} (hp : p.block ≠ m) : Mp (w.setCell p u) m c := h.blk (Below.heap_setCell w p u m (fun e => hp e.symm))

set_option maxHeartbeats 4000000 in
theorem pmove_same (g m : Nat) (A : ByteArray) (k n : Nat) (c : ByteArray → Nat) (s : ByteArray) (w : World) (h : Pe w g m A k n c true) (hs : okA s = true) (he : s = A) (hn : n < 4611686018427387904) :
    Calls Try.prog 13 #[.pointer (some ⟨g, 0, none⟩), .string s] w fun e w' => e = .returned (.bool false) ∧ Pe w' g m A (k) (n + 1) (upC c s) true ∧ Buc (Tw g m) w w' := by
  have HS := Lib.hid hs
  have HL := Lib.hid (show s.size ≤ 9223372036854775807 by have := okA_size hs; omega)
  have HA := Lib.hid h.len
  have HE := Lib.hid (eqT he)
  have HE0 := Lib.hid he
  clear hs he
  obtain ⟨y, hy⟩ : ∃ y, c s = y := ⟨_, rfl⟩
  obtain ⟨x, hx⟩ : ∃ x, y + 1 = x := ⟨_, rfl⟩
  have hyn : y ≤ n := by rw [← hy]; exact h.few.2 s
  have HF := Lib.hid (show k ≤ n + 1 ∧ ∀ t, upC c s t ≤ n + 1 from ⟨by have := h.few.1; omega, fun t => by unfold upC; split; have := h.few.2 s; omega; have := h.few.2 t; omega⟩)
  have HWX := Lib.hid (show wrap64 ((y : Int) + 1) = (x : Int) ∧ IntKind.i64.wrap ((y : Int) + 1) = (x : Int) by refine ⟨?_, ?_⟩; rw [IntWalk.wrap64_in _ (by omega)]; omega; rw [IntKind.wrap_i64]; omega)
  have HY := Lib.hid hy
  have HXY := Lib.hid hx
  have HK1 := Lib.hid (show wrap64 ((k : Int) + 1) = ((k + 1 : Nat) : Int) by have := h.few.1; rw [IntWalk.wrap64_in _ (by omega)]; omega)
  clear hy hx hyn hn
  have hmg := h.ne
  have hlg := h.lt
  have hlm := h.ltm
  obtain ⟨X, hX⟩ : ∃ X, plA s = X := ⟨_, rfl⟩
  have HX := Lib.hid hX
  go_enter Try.func13, Try.ntmps13
  go_wp2_with fail
  refine (pplaced s _).mono ?_
  rintro e w1 ⟨rfl, hq⟩
  rw [hX]
  clear hX
  obtain ⟨w2, hw2⟩ : ∃ V : World, V = w1.alloc (.cells #[.string X] 38) := ⟨_, rfl⟩
  obtain ⟨p, hp⟩ : ∃ p : Nat, w1.heap.size = p := ⟨_, rfl⟩
  have hT2 : Cx w2 p 1 (fun _ => .string X) := by rw [hw2, ← hp]; exact Cx.new w1 1 (fun _ => .string X) _
  have hlt : w.heap.size ≤ p := by rw [← hp]; exact hq.size
  have hq2 : Below w.heap.size w w2 := by rw [hw2]; exact hq.alloc hq.size _
  have h2 := h.to hq2
  go_upto_region 2 with fail
  rw [← hw2]
  try rw [hp]
  clear hw2 hp hq
  go_wp2_with fail
  refine (pfix g m A k n c true _ h2).mono ?_
  rintro e w9 ⟨rfl, hw9⟩
  rw [hw9]
  clear hw9 w9
  simp only [Bool.not_true]
  have k0 := (hT2 0 (by omega)).1
  go_wp2_with fail
  refine (pnob X _).mono ?_
  rintro e w3 ⟨rfl, hq3⟩
  rw [show emA X = false by rw [← HX.out, plA_ok HS.out]; exact em_ok HS.out]
  have h3 := h2.to hq3
  have hTw3 := hT2.to (by omega) hq3
  rw [show X = s by rw [← HX.out, plA_ok HS.out]] at hTw3
  have hGw3 := h3.cx
  have hMw3 := h3.mp rfl
  simp only [if_true] at hGw3
  have hUw3 : Buc (Tw g m) w w3 := Buc.of (hq2.trans (hq3.mono hq2.size))
  clear h h2 h3 hT2 hq2 hq3 k0
  go_wp2_with fail
  have hMrd := hMw3.drew
  refine wp_region_held_drew (S := fun W => Cx W p 1 (fun _ => .string s) ∧ Cx W g 3 (peF A k (some m)) ∧ Buc (Tw g m) w W) (by kernel_rfl) ⟨hTw3.drew, hGw3.drew, hUw3.drew⟩ (fun hHeld => ?_)
  clear hTw3 hGw3 hUw3 hMw3
  generalize World.drew w3 = rd at *
  refine wpAnyH_take (i := 0) (v := ?vr1) rfl (by kernel_rfl) (by kernel_rfl) (by kernel_rfl) (fun _ _ _ h => h) (Or.inl ⟨by rfl, ?hyr1⟩) (by assumption) ?restr1
  case hyr1 =>
    intro W hSw
    go_simp
    try with_reducible rfl
  simp only [Act.put, List.setIfInBounds_toArray, List.set_cons_zero, List.set_cons_succ, List.getElem_toArray, List.getElem_cons_zero]
  refine wpAnyH_take (i := 1) (v := ?vr2) rfl (by kernel_rfl) (by kernel_rfl) (by kernel_rfl) (fun _ _ _ h => h) (Or.inl ⟨by rfl, ?hyr2⟩) (by assumption) ?restr2
  case hyr2 =>
    intro W hSw
    go_simp
    try with_reducible rfl
  simp only [Act.put, List.setIfInBounds_toArray, List.set_cons_zero, List.set_cons_succ, List.getElem_toArray, List.getElem_cons_zero, List.getElem_cons_succ]
  refine wpAnyH_take (i := 2) (v := ?vr3) rfl (by kernel_rfl) (by kernel_rfl) (by kernel_rfl) (fun _ _ _ h => h) (Or.inl ⟨by rfl, ?hyr3⟩) (by assumption) ?restr3
  case hyr3 =>
    intro W hSw
    go_simp
    try with_reducible rfl
  simp only [Act.put, List.setIfInBounds_toArray, List.set_cons_zero, List.set_cons_succ, List.getElem_toArray, List.getElem_cons_zero, List.getElem_cons_succ]
  refine wpAnyH_take (i := 3) (v := ?vr4) rfl (by kernel_rfl) (by kernel_rfl) (by kernel_rfl) (fun _ _ _ h => h) (Or.inl ⟨by rfl, ?hyr4⟩) (by assumption) ?restr4
  case hyr4 =>
    intro W hSw
    have c2 := (hSw.2.1 2 (by omega)).1
    simp only [peF] at c2
    go_simp
    try with_reducible rfl
  simp only [Act.put, List.setIfInBounds_toArray, List.set_cons_zero, List.set_cons_succ, List.getElem_toArray, List.getElem_cons_zero, List.getElem_cons_succ]
  refine wpAnyH_take (i := 4) (v := ?vr5) rfl (by kernel_rfl) (by kernel_rfl) (by kernel_rfl) (fun _ _ _ h => h) (Or.inl ⟨by rfl, ?hyr5⟩) (by assumption) ?restr5
  case hyr5 =>
    intro W hSw
    have k0 := (hSw.1 0 (by omega)).1
    go_simp
    try with_reducible rfl
  simp only [Act.put, List.setIfInBounds_toArray, List.set_cons_zero, List.set_cons_succ, List.getElem_toArray, List.getElem_cons_zero, List.getElem_cons_succ]
  refine wpAnyH_ready (rs := [5, 7]) (by kernel_rfl) (by simp) ?_
  refine AllReadyH.cons rfl (fun K hK => ?_) (AllReadyH.cons rfl (fun K hK => ?_) AllReadyH.nil)
  · rw [if_pos (by rfl)]
    refine wp_look _ _ _ rfl (.map (some m)) (kyV s) (.int .i64 (y : Int)) rfl rfl (by rw [← HY.out]; exact look_at hMrd HL.out) ?_
    refine hK.out _ _ hHeld (fun hHeld2 => ?_)
    clear hK K hHeld
    have hHeld := hHeld2
    clear hHeld2
    try simp only [Act.put, List.setIfInBounds_toArray, List.set_cons_zero, List.set_cons_succ, List.getElem_toArray, List.getElem_cons_zero, List.getElem_cons_succ]
    refine wpAnyH_take (i := 6) (v := ?vr6) rfl (by kernel_rfl) (by kernel_rfl) (by kernel_rfl) (fun _ _ _ h => h) (Or.inl ⟨by rfl, ?hyr6⟩) (by assumption) ?restr6
    case hyr6 =>
      intro W hSw
      have i8 := HWX.out.1
      have i9 := HWX.out.2
      go_simp
      try with_reducible rfl
    simp only [Act.put, List.setIfInBounds_toArray, List.set_cons_zero, List.set_cons_succ, List.getElem_toArray, List.getElem_cons_zero, List.getElem_cons_succ]
    refine wpAnyH_ready (rs := [7]) (by kernel_rfl) (by simp) ?_
    refine AllReadyH.cons rfl (fun K hK => ?_) AllReadyH.nil
    rw [if_pos (by rfl)]
    obtain ⟨st, r7, hr, hNr7, hq⟩ := entry_at hMrd HL.out
    rw [HY.out] at hr
    have hMr7 := hNr7.mp
    refine wp_entry _ _ _ rfl (.map (some m)) (kyV s) (.tuple #[.int .i64 (y : Int), .int .i64 (st : Int)]) rfl rfl hr ?_
    refine hK.out _ _ ⟨(hHeld.1).buc hq (On.ne (by omega)), (hHeld.2.1).buc hq (On.ne (by omega)), (hHeld.2.2).onm hq⟩ (fun hHeld2 => ?_)
    clear hK K hHeld hr hq hMrd
    have hHeld := hHeld2
    clear hHeld2
    try simp only [Act.put, List.setIfInBounds_toArray, List.set_cons_zero, List.set_cons_succ, List.getElem_toArray, List.getElem_cons_zero, List.getElem_cons_succ]
    refine wpAnyH_take (i := 8) (v := ?vr8) rfl (by kernel_rfl) (by kernel_rfl) (by kernel_rfl) (fun _ _ _ h => h) (Or.inl ⟨by rfl, ?hyr8⟩) (by assumption) ?restr8
    case hyr8 =>
      intro W hSw
      go_simp
      try with_reducible rfl
    simp only [Act.put, List.setIfInBounds_toArray, List.set_cons_zero, List.set_cons_succ, List.getElem_toArray, List.getElem_cons_zero, List.getElem_cons_succ]
    refine wpAnyH_ready (rs := [9]) (by kernel_rfl) (by simp) ?_
    refine AllReadyH.cons rfl (fun K hK => ?_) AllReadyH.nil
    rw [if_pos (by rfl)]
    obtain ⟨r9, hr, hMr9, hq⟩ := store_at hNr7 x (by rw [HY.out]; exact HXY.out)
    refine wp_estore _ _ _ _ rfl (.map (some m)) (.int .i64 (st : Int)) (.int .i64 (x : Int)) rfl rfl rfl hr ?_
    refine hK.out _ _ ⟨(hHeld.1).buc hq (On.ne (by omega)), (hHeld.2.1).buc hq (On.ne (by omega)), (hHeld.2.2).onm hq⟩ (fun hHeld2 => ?_)
    clear hK K hHeld hr hq hMr7 hNr7
    have hHeld := hHeld2
    clear hHeld2
    try simp only [Act.put]
    refine wpAnyH_done (by kernel_rfl) ?_ _
    have hTr9 := hHeld.1
    have hGr9 := hHeld.2.1
    have hUr9 := hHeld.2.2
    clear hHeld
    go_wp2_with fail
    have hMer9d := hMr9.drew
    refine wp_region_held_drew (S := fun W => Cx W p 1 (fun _ => .string s) ∧ Cx W g 3 (peF A k (some m)) ∧ Buc (Tw g m) w W) (by kernel_rfl) ⟨hTr9.drew, hGr9.drew, hUr9.drew⟩ (fun hHeld => ?_)
    clear hTr9 hGr9 hUr9 hMr9
    generalize World.drew r9 = er9d at *
    refine wpAnyH_take (i := 0) (v := ?ver91) rfl (by kernel_rfl) (by kernel_rfl) (by kernel_rfl) (fun _ _ _ h => h) (Or.inl ⟨by rfl, ?hyer91⟩) (by assumption) ?rester91
    case hyer91 =>
      intro W hSw
      have k0 := (hSw.1 0 (by omega)).1
      go_simp
      try with_reducible rfl
    simp only [Act.put, List.setIfInBounds_toArray, List.set_cons_zero, List.set_cons_succ, List.getElem_toArray, List.getElem_cons_zero]
    refine wpAnyH_take (i := 1) (v := ?ver92) rfl (by kernel_rfl) (by kernel_rfl) (by kernel_rfl) (fun _ _ _ h => h) (Or.inl ⟨by rfl, ?hyer92⟩) (by assumption) ?rester92
    case hyer92 =>
      intro W hSw
      go_simp
      try with_reducible rfl
    simp only [Act.put, List.setIfInBounds_toArray, List.set_cons_zero, List.set_cons_succ, List.getElem_toArray, List.getElem_cons_zero, List.getElem_cons_succ]
    refine wpAnyH_take (i := 2) (v := ?ver93) rfl (by kernel_rfl) (by kernel_rfl) (by kernel_rfl) (fun _ _ _ h => h) (Or.inl ⟨by rfl, ?hyer93⟩) (by assumption) ?rester93
    case hyer93 =>
      intro W hSw
      go_simp
      try with_reducible rfl
    simp only [Act.put, List.setIfInBounds_toArray, List.set_cons_zero, List.set_cons_succ, List.getElem_toArray, List.getElem_cons_zero, List.getElem_cons_succ]
    refine wpAnyH_take (i := 3) (v := ?ver94) rfl (by kernel_rfl) (by kernel_rfl) (by kernel_rfl) (fun _ _ _ h => h) (Or.inl ⟨by rfl, ?hyer94⟩) (by assumption) ?rester94
    case hyer94 =>
      intro W hSw
      go_simp
      try with_reducible rfl
    simp only [Act.put, List.setIfInBounds_toArray, List.set_cons_zero, List.set_cons_succ, List.getElem_toArray, List.getElem_cons_zero, List.getElem_cons_succ]
    refine wpAnyH_take (i := 4) (v := ?ver95) rfl (by kernel_rfl) (by kernel_rfl) (by kernel_rfl) (fun _ _ _ h => h) (Or.inl ⟨by rfl, ?hyer95⟩) (by assumption) ?rester95
    case hyer95 =>
      intro W hSw
      have c0 := (hSw.2.1 0 (by omega)).1
      simp only [peF] at c0
      go_simp
      try with_reducible rfl
    simp only [Act.put, List.setIfInBounds_toArray, List.set_cons_zero, List.set_cons_succ, List.getElem_toArray, List.getElem_cons_zero, List.getElem_cons_succ]
    refine wpAnyH_take (i := 5) (v := .bool true) rfl (by kernel_rfl) (by kernel_rfl) (by kernel_rfl) (fun _ _ _ h => h) (Or.inl ⟨by rfl, ?hyer96⟩) (by assumption) ?rester96
    case hyer96 =>
      intro W hSw
      have e9 := HE.out
      go_simp
      try with_reducible rfl
    simp only [Act.put, List.setIfInBounds_toArray, List.set_cons_zero, List.set_cons_succ, List.getElem_toArray, List.getElem_cons_zero, List.getElem_cons_succ]
    refine wpAnyH_done (by kernel_rfl) ?_ _
    have hT := hHeld.1
    have hG := hHeld.2.1
    have hU := hHeld.2.2
    clear hHeld
    go_wp2_with fail
    go_ret
    exact ⟨rfl, ⟨hG, fun _ => hMer9d, HF.out, HA.out⟩, hU⟩
  · rw [if_pos (by rfl)]
    obtain ⟨st, r10, hr, hNr10, hq⟩ := entry_at hMrd HL.out
    rw [HY.out] at hr
    have hMr10 := hNr10.mp
    refine wp_entry _ _ _ rfl (.map (some m)) (kyV s) (.tuple #[.int .i64 (y : Int), .int .i64 (st : Int)]) rfl rfl hr ?_
    refine hK.out _ _ ⟨(hHeld.1).buc hq (On.ne (by omega)), (hHeld.2.1).buc hq (On.ne (by omega)), (hHeld.2.2).onm hq⟩ (fun hHeld2 => ?_)
    clear hK K hHeld hr hq hMrd
    have hHeld := hHeld2
    clear hHeld2
    try simp only [Act.put, List.setIfInBounds_toArray, List.set_cons_zero, List.set_cons_succ, List.getElem_toArray, List.getElem_cons_zero, List.getElem_cons_succ]
    refine wpAnyH_take (i := 8) (v := ?vr11) rfl (by kernel_rfl) (by kernel_rfl) (by kernel_rfl) (fun _ _ _ h => h) (Or.inl ⟨by rfl, ?hyr11⟩) (by assumption) ?restr11
    case hyr11 =>
      intro W hSw
      go_simp
      try with_reducible rfl
    simp only [Act.put, List.setIfInBounds_toArray, List.set_cons_zero, List.set_cons_succ, List.getElem_toArray, List.getElem_cons_zero, List.getElem_cons_succ]
    refine wpAnyH_ready (rs := [5]) (by kernel_rfl) (by simp) ?_
    refine AllReadyH.cons rfl (fun K hK => ?_) AllReadyH.nil
    rw [if_pos (by rfl)]
    refine wp_look _ _ _ rfl (.map (some m)) (kyV s) (.int .i64 (y : Int)) rfl rfl (by rw [← HY.out]; exact look_at hMr10 HL.out) ?_
    refine hK.out _ _ hHeld (fun hHeld2 => ?_)
    clear hK K hHeld
    have hHeld := hHeld2
    clear hHeld2
    try simp only [Act.put, List.setIfInBounds_toArray, List.set_cons_zero, List.set_cons_succ, List.getElem_toArray, List.getElem_cons_zero, List.getElem_cons_succ]
    refine wpAnyH_take (i := 6) (v := ?vr12) rfl (by kernel_rfl) (by kernel_rfl) (by kernel_rfl) (fun _ _ _ h => h) (Or.inl ⟨by rfl, ?hyr12⟩) (by assumption) ?restr12
    case hyr12 =>
      intro W hSw
      have i8 := HWX.out.1
      have i9 := HWX.out.2
      go_simp
      try with_reducible rfl
    simp only [Act.put, List.setIfInBounds_toArray, List.set_cons_zero, List.set_cons_succ, List.getElem_toArray, List.getElem_cons_zero, List.getElem_cons_succ]
    refine wpAnyH_ready (rs := [9]) (by kernel_rfl) (by simp) ?_
    refine AllReadyH.cons rfl (fun K hK => ?_) AllReadyH.nil
    rw [if_pos (by rfl)]
    obtain ⟨r13, hr, hMr13, hq⟩ := store_at hNr10 x (by rw [HY.out]; exact HXY.out)
    refine wp_estore _ _ _ _ rfl (.map (some m)) (.int .i64 (st : Int)) (.int .i64 (x : Int)) rfl rfl rfl hr ?_
    refine hK.out _ _ ⟨(hHeld.1).buc hq (On.ne (by omega)), (hHeld.2.1).buc hq (On.ne (by omega)), (hHeld.2.2).onm hq⟩ (fun hHeld2 => ?_)
    clear hK K hHeld hr hq hMr10 hNr10
    have hHeld := hHeld2
    clear hHeld2
    try simp only [Act.put]
    refine wpAnyH_done (by kernel_rfl) ?_ _
    have hTr13 := hHeld.1
    have hGr13 := hHeld.2.1
    have hUr13 := hHeld.2.2
    clear hHeld
    go_wp2_with fail
    have hMer13d := hMr13.drew
    refine wp_region_held_drew (S := fun W => Cx W p 1 (fun _ => .string s) ∧ Cx W g 3 (peF A k (some m)) ∧ Buc (Tw g m) w W) (by kernel_rfl) ⟨hTr13.drew, hGr13.drew, hUr13.drew⟩ (fun hHeld => ?_)
    clear hTr13 hGr13 hUr13 hMr13
    generalize World.drew r13 = er13d at *
    refine wpAnyH_take (i := 0) (v := ?ver131) rfl (by kernel_rfl) (by kernel_rfl) (by kernel_rfl) (fun _ _ _ h => h) (Or.inl ⟨by rfl, ?hyer131⟩) (by assumption) ?rester131
    case hyer131 =>
      intro W hSw
      have k0 := (hSw.1 0 (by omega)).1
      go_simp
      try with_reducible rfl
    simp only [Act.put, List.setIfInBounds_toArray, List.set_cons_zero, List.set_cons_succ, List.getElem_toArray, List.getElem_cons_zero]
    refine wpAnyH_take (i := 1) (v := ?ver132) rfl (by kernel_rfl) (by kernel_rfl) (by kernel_rfl) (fun _ _ _ h => h) (Or.inl ⟨by rfl, ?hyer132⟩) (by assumption) ?rester132
    case hyer132 =>
      intro W hSw
      go_simp
      try with_reducible rfl
    simp only [Act.put, List.setIfInBounds_toArray, List.set_cons_zero, List.set_cons_succ, List.getElem_toArray, List.getElem_cons_zero, List.getElem_cons_succ]
    refine wpAnyH_take (i := 2) (v := ?ver133) rfl (by kernel_rfl) (by kernel_rfl) (by kernel_rfl) (fun _ _ _ h => h) (Or.inl ⟨by rfl, ?hyer133⟩) (by assumption) ?rester133
    case hyer133 =>
      intro W hSw
      go_simp
      try with_reducible rfl
    simp only [Act.put, List.setIfInBounds_toArray, List.set_cons_zero, List.set_cons_succ, List.getElem_toArray, List.getElem_cons_zero, List.getElem_cons_succ]
    refine wpAnyH_take (i := 3) (v := ?ver134) rfl (by kernel_rfl) (by kernel_rfl) (by kernel_rfl) (fun _ _ _ h => h) (Or.inl ⟨by rfl, ?hyer134⟩) (by assumption) ?rester134
    case hyer134 =>
      intro W hSw
      go_simp
      try with_reducible rfl
    simp only [Act.put, List.setIfInBounds_toArray, List.set_cons_zero, List.set_cons_succ, List.getElem_toArray, List.getElem_cons_zero, List.getElem_cons_succ]
    refine wpAnyH_take (i := 4) (v := ?ver135) rfl (by kernel_rfl) (by kernel_rfl) (by kernel_rfl) (fun _ _ _ h => h) (Or.inl ⟨by rfl, ?hyer135⟩) (by assumption) ?rester135
    case hyer135 =>
      intro W hSw
      have c0 := (hSw.2.1 0 (by omega)).1
      simp only [peF] at c0
      go_simp
      try with_reducible rfl
    simp only [Act.put, List.setIfInBounds_toArray, List.set_cons_zero, List.set_cons_succ, List.getElem_toArray, List.getElem_cons_zero, List.getElem_cons_succ]
    refine wpAnyH_take (i := 5) (v := .bool true) rfl (by kernel_rfl) (by kernel_rfl) (by kernel_rfl) (fun _ _ _ h => h) (Or.inl ⟨by rfl, ?hyer136⟩) (by assumption) ?rester136
    case hyer136 =>
      intro W hSw
      have e9 := HE.out
      go_simp
      try with_reducible rfl
    simp only [Act.put, List.setIfInBounds_toArray, List.set_cons_zero, List.set_cons_succ, List.getElem_toArray, List.getElem_cons_zero, List.getElem_cons_succ]
    refine wpAnyH_done (by kernel_rfl) ?_ _
    have hT := hHeld.1
    have hG := hHeld.2.1
    have hU := hHeld.2.2
    clear hHeld
    go_wp2_with fail
    go_ret
    exact ⟨rfl, ⟨hG, fun _ => hMer13d, HF.out, HA.out⟩, hU⟩

set_option maxHeartbeats 4000000 in
theorem pmove_yes (g m : Nat) (A : ByteArray) (k n : Nat) (c : ByteArray → Nat) (s : ByteArray) (w : World) (h : Pe w g m A k n c true) (hs : okA s = true) (he : ¬ s = A) (hn : n < 4611686018427387904) :
    Calls Try.prog 13 #[.pointer (some ⟨g, 0, none⟩), .string s] w fun e w' => e = .returned (.bool true) ∧ Pe w' g m s (k + 1) (n + 1) (upC c s) true ∧ Buc (Tw g m) w w' := by
  have HS := Lib.hid hs
  have HL := Lib.hid (show s.size ≤ 9223372036854775807 by have := okA_size hs; omega)
  have HA := Lib.hid h.len
  have HE := Lib.hid (eqF he)
  have HE0 := Lib.hid he
  clear hs he
  obtain ⟨y, hy⟩ : ∃ y, c s = y := ⟨_, rfl⟩
  obtain ⟨x, hx⟩ : ∃ x, y + 1 = x := ⟨_, rfl⟩
  have hyn : y ≤ n := by rw [← hy]; exact h.few.2 s
  have HF := Lib.hid (show k + 1 ≤ n + 1 ∧ ∀ t, upC c s t ≤ n + 1 from ⟨by have := h.few.1; omega, fun t => by unfold upC; split; have := h.few.2 s; omega; have := h.few.2 t; omega⟩)
  have HWX := Lib.hid (show wrap64 ((y : Int) + 1) = (x : Int) ∧ IntKind.i64.wrap ((y : Int) + 1) = (x : Int) by refine ⟨?_, ?_⟩; rw [IntWalk.wrap64_in _ (by omega)]; omega; rw [IntKind.wrap_i64]; omega)
  have HY := Lib.hid hy
  have HXY := Lib.hid hx
  have HK1 := Lib.hid (show wrap64 ((k : Int) + 1) = ((k + 1 : Nat) : Int) by have := h.few.1; rw [IntWalk.wrap64_in _ (by omega)]; omega)
  clear hy hx hyn hn
  have hmg := h.ne
  have hlg := h.lt
  have hlm := h.ltm
  obtain ⟨X, hX⟩ : ∃ X, plA s = X := ⟨_, rfl⟩
  have HX := Lib.hid hX
  go_enter Try.func13, Try.ntmps13
  go_wp2_with fail
  refine (pplaced s _).mono ?_
  rintro e w1 ⟨rfl, hq⟩
  rw [hX]
  clear hX
  obtain ⟨w2, hw2⟩ : ∃ V : World, V = w1.alloc (.cells #[.string X] 38) := ⟨_, rfl⟩
  obtain ⟨p, hp⟩ : ∃ p : Nat, w1.heap.size = p := ⟨_, rfl⟩
  have hT2 : Cx w2 p 1 (fun _ => .string X) := by rw [hw2, ← hp]; exact Cx.new w1 1 (fun _ => .string X) _
  have hlt : w.heap.size ≤ p := by rw [← hp]; exact hq.size
  have hq2 : Below w.heap.size w w2 := by rw [hw2]; exact hq.alloc hq.size _
  have h2 := h.to hq2
  go_upto_region 2 with fail
  rw [← hw2]
  try rw [hp]
  clear hw2 hp hq
  go_wp2_with fail
  refine (pfix g m A k n c true _ h2).mono ?_
  rintro e w9 ⟨rfl, hw9⟩
  rw [hw9]
  clear hw9 w9
  simp only [Bool.not_true]
  have k0 := (hT2 0 (by omega)).1
  go_wp2_with fail
  refine (pnob X _).mono ?_
  rintro e w3 ⟨rfl, hq3⟩
  rw [show emA X = false by rw [← HX.out, plA_ok HS.out]; exact em_ok HS.out]
  have h3 := h2.to hq3
  have hTw3 := hT2.to (by omega) hq3
  rw [show X = s by rw [← HX.out, plA_ok HS.out]] at hTw3
  have hGw3 := h3.cx
  have hMw3 := h3.mp rfl
  simp only [if_true] at hGw3
  have hUw3 : Buc (Tw g m) w w3 := Buc.of (hq2.trans (hq3.mono hq2.size))
  clear h h2 h3 hT2 hq2 hq3 k0
  go_wp2_with fail
  have hMrd := hMw3.drew
  refine wp_region_held_drew (S := fun W => Cx W p 1 (fun _ => .string s) ∧ Cx W g 3 (peF A k (some m)) ∧ Buc (Tw g m) w W) (by kernel_rfl) ⟨hTw3.drew, hGw3.drew, hUw3.drew⟩ (fun hHeld => ?_)
  clear hTw3 hGw3 hUw3 hMw3
  generalize World.drew w3 = rd at *
  refine wpAnyH_take (i := 0) (v := ?vr1) rfl (by kernel_rfl) (by kernel_rfl) (by kernel_rfl) (fun _ _ _ h => h) (Or.inl ⟨by rfl, ?hyr1⟩) (by assumption) ?restr1
  case hyr1 =>
    intro W hSw
    go_simp
    try with_reducible rfl
  simp only [Act.put, List.setIfInBounds_toArray, List.set_cons_zero, List.set_cons_succ, List.getElem_toArray, List.getElem_cons_zero]
  refine wpAnyH_take (i := 1) (v := ?vr2) rfl (by kernel_rfl) (by kernel_rfl) (by kernel_rfl) (fun _ _ _ h => h) (Or.inl ⟨by rfl, ?hyr2⟩) (by assumption) ?restr2
  case hyr2 =>
    intro W hSw
    go_simp
    try with_reducible rfl
  simp only [Act.put, List.setIfInBounds_toArray, List.set_cons_zero, List.set_cons_succ, List.getElem_toArray, List.getElem_cons_zero, List.getElem_cons_succ]
  refine wpAnyH_take (i := 2) (v := ?vr3) rfl (by kernel_rfl) (by kernel_rfl) (by kernel_rfl) (fun _ _ _ h => h) (Or.inl ⟨by rfl, ?hyr3⟩) (by assumption) ?restr3
  case hyr3 =>
    intro W hSw
    go_simp
    try with_reducible rfl
  simp only [Act.put, List.setIfInBounds_toArray, List.set_cons_zero, List.set_cons_succ, List.getElem_toArray, List.getElem_cons_zero, List.getElem_cons_succ]
  refine wpAnyH_take (i := 3) (v := ?vr4) rfl (by kernel_rfl) (by kernel_rfl) (by kernel_rfl) (fun _ _ _ h => h) (Or.inl ⟨by rfl, ?hyr4⟩) (by assumption) ?restr4
  case hyr4 =>
    intro W hSw
    have c2 := (hSw.2.1 2 (by omega)).1
    simp only [peF] at c2
    go_simp
    try with_reducible rfl
  simp only [Act.put, List.setIfInBounds_toArray, List.set_cons_zero, List.set_cons_succ, List.getElem_toArray, List.getElem_cons_zero, List.getElem_cons_succ]
  refine wpAnyH_take (i := 4) (v := ?vr5) rfl (by kernel_rfl) (by kernel_rfl) (by kernel_rfl) (fun _ _ _ h => h) (Or.inl ⟨by rfl, ?hyr5⟩) (by assumption) ?restr5
  case hyr5 =>
    intro W hSw
    have k0 := (hSw.1 0 (by omega)).1
    go_simp
    try with_reducible rfl
  simp only [Act.put, List.setIfInBounds_toArray, List.set_cons_zero, List.set_cons_succ, List.getElem_toArray, List.getElem_cons_zero, List.getElem_cons_succ]
  refine wpAnyH_ready (rs := [5, 7]) (by kernel_rfl) (by simp) ?_
  refine AllReadyH.cons rfl (fun K hK => ?_) (AllReadyH.cons rfl (fun K hK => ?_) AllReadyH.nil)
  · rw [if_pos (by rfl)]
    refine wp_look _ _ _ rfl (.map (some m)) (kyV s) (.int .i64 (y : Int)) rfl rfl (by rw [← HY.out]; exact look_at hMrd HL.out) ?_
    refine hK.out _ _ hHeld (fun hHeld2 => ?_)
    clear hK K hHeld
    have hHeld := hHeld2
    clear hHeld2
    try simp only [Act.put, List.setIfInBounds_toArray, List.set_cons_zero, List.set_cons_succ, List.getElem_toArray, List.getElem_cons_zero, List.getElem_cons_succ]
    refine wpAnyH_take (i := 6) (v := ?vr6) rfl (by kernel_rfl) (by kernel_rfl) (by kernel_rfl) (fun _ _ _ h => h) (Or.inl ⟨by rfl, ?hyr6⟩) (by assumption) ?restr6
    case hyr6 =>
      intro W hSw
      have i8 := HWX.out.1
      have i9 := HWX.out.2
      go_simp
      try with_reducible rfl
    simp only [Act.put, List.setIfInBounds_toArray, List.set_cons_zero, List.set_cons_succ, List.getElem_toArray, List.getElem_cons_zero, List.getElem_cons_succ]
    refine wpAnyH_ready (rs := [7]) (by kernel_rfl) (by simp) ?_
    refine AllReadyH.cons rfl (fun K hK => ?_) AllReadyH.nil
    rw [if_pos (by rfl)]
    obtain ⟨st, r7, hr, hNr7, hq⟩ := entry_at hMrd HL.out
    rw [HY.out] at hr
    have hMr7 := hNr7.mp
    refine wp_entry _ _ _ rfl (.map (some m)) (kyV s) (.tuple #[.int .i64 (y : Int), .int .i64 (st : Int)]) rfl rfl hr ?_
    refine hK.out _ _ ⟨(hHeld.1).buc hq (On.ne (by omega)), (hHeld.2.1).buc hq (On.ne (by omega)), (hHeld.2.2).onm hq⟩ (fun hHeld2 => ?_)
    clear hK K hHeld hr hq hMrd
    have hHeld := hHeld2
    clear hHeld2
    try simp only [Act.put, List.setIfInBounds_toArray, List.set_cons_zero, List.set_cons_succ, List.getElem_toArray, List.getElem_cons_zero, List.getElem_cons_succ]
    refine wpAnyH_take (i := 8) (v := ?vr8) rfl (by kernel_rfl) (by kernel_rfl) (by kernel_rfl) (fun _ _ _ h => h) (Or.inl ⟨by rfl, ?hyr8⟩) (by assumption) ?restr8
    case hyr8 =>
      intro W hSw
      go_simp
      try with_reducible rfl
    simp only [Act.put, List.setIfInBounds_toArray, List.set_cons_zero, List.set_cons_succ, List.getElem_toArray, List.getElem_cons_zero, List.getElem_cons_succ]
    refine wpAnyH_ready (rs := [9]) (by kernel_rfl) (by simp) ?_
    refine AllReadyH.cons rfl (fun K hK => ?_) AllReadyH.nil
    rw [if_pos (by rfl)]
    obtain ⟨r9, hr, hMr9, hq⟩ := store_at hNr7 x (by rw [HY.out]; exact HXY.out)
    refine wp_estore _ _ _ _ rfl (.map (some m)) (.int .i64 (st : Int)) (.int .i64 (x : Int)) rfl rfl rfl hr ?_
    refine hK.out _ _ ⟨(hHeld.1).buc hq (On.ne (by omega)), (hHeld.2.1).buc hq (On.ne (by omega)), (hHeld.2.2).onm hq⟩ (fun hHeld2 => ?_)
    clear hK K hHeld hr hq hMr7 hNr7
    have hHeld := hHeld2
    clear hHeld2
    try simp only [Act.put]
    refine wpAnyH_done (by kernel_rfl) ?_ _
    have hTr9 := hHeld.1
    have hGr9 := hHeld.2.1
    have hUr9 := hHeld.2.2
    clear hHeld
    go_wp2_with fail
    have hMer9d := hMr9.drew
    refine wp_region_held_drew (S := fun W => Cx W p 1 (fun _ => .string s) ∧ Cx W g 3 (peF A k (some m)) ∧ Buc (Tw g m) w W) (by kernel_rfl) ⟨hTr9.drew, hGr9.drew, hUr9.drew⟩ (fun hHeld => ?_)
    clear hTr9 hGr9 hUr9 hMr9
    generalize World.drew r9 = er9d at *
    refine wpAnyH_take (i := 0) (v := ?ver91) rfl (by kernel_rfl) (by kernel_rfl) (by kernel_rfl) (fun _ _ _ h => h) (Or.inl ⟨by rfl, ?hyer91⟩) (by assumption) ?rester91
    case hyer91 =>
      intro W hSw
      have k0 := (hSw.1 0 (by omega)).1
      go_simp
      try with_reducible rfl
    simp only [Act.put, List.setIfInBounds_toArray, List.set_cons_zero, List.set_cons_succ, List.getElem_toArray, List.getElem_cons_zero]
    refine wpAnyH_take (i := 1) (v := ?ver92) rfl (by kernel_rfl) (by kernel_rfl) (by kernel_rfl) (fun _ _ _ h => h) (Or.inl ⟨by rfl, ?hyer92⟩) (by assumption) ?rester92
    case hyer92 =>
      intro W hSw
      go_simp
      try with_reducible rfl
    simp only [Act.put, List.setIfInBounds_toArray, List.set_cons_zero, List.set_cons_succ, List.getElem_toArray, List.getElem_cons_zero, List.getElem_cons_succ]
    refine wpAnyH_take (i := 2) (v := ?ver93) rfl (by kernel_rfl) (by kernel_rfl) (by kernel_rfl) (fun _ _ _ h => h) (Or.inl ⟨by rfl, ?hyer93⟩) (by assumption) ?rester93
    case hyer93 =>
      intro W hSw
      go_simp
      try with_reducible rfl
    simp only [Act.put, List.setIfInBounds_toArray, List.set_cons_zero, List.set_cons_succ, List.getElem_toArray, List.getElem_cons_zero, List.getElem_cons_succ]
    refine wpAnyH_take (i := 3) (v := ?ver94) rfl (by kernel_rfl) (by kernel_rfl) (by kernel_rfl) (fun _ _ _ h => h) (Or.inl ⟨by rfl, ?hyer94⟩) (by assumption) ?rester94
    case hyer94 =>
      intro W hSw
      go_simp
      try with_reducible rfl
    simp only [Act.put, List.setIfInBounds_toArray, List.set_cons_zero, List.set_cons_succ, List.getElem_toArray, List.getElem_cons_zero, List.getElem_cons_succ]
    refine wpAnyH_take (i := 4) (v := ?ver95) rfl (by kernel_rfl) (by kernel_rfl) (by kernel_rfl) (fun _ _ _ h => h) (Or.inl ⟨by rfl, ?hyer95⟩) (by assumption) ?rester95
    case hyer95 =>
      intro W hSw
      have c0 := (hSw.2.1 0 (by omega)).1
      simp only [peF] at c0
      go_simp
      try with_reducible rfl
    simp only [Act.put, List.setIfInBounds_toArray, List.set_cons_zero, List.set_cons_succ, List.getElem_toArray, List.getElem_cons_zero, List.getElem_cons_succ]
    refine wpAnyH_take (i := 5) (v := .bool false) rfl (by kernel_rfl) (by kernel_rfl) (by kernel_rfl) (fun _ _ _ h => h) (Or.inl ⟨by rfl, ?hyer96⟩) (by assumption) ?rester96
    case hyer96 =>
      intro W hSw
      have e9 := HE.out
      go_simp
      try with_reducible rfl
    simp only [Act.put, List.setIfInBounds_toArray, List.set_cons_zero, List.set_cons_succ, List.getElem_toArray, List.getElem_cons_zero, List.getElem_cons_succ]
    refine wpAnyH_done (by kernel_rfl) ?_ _
    have hT := hHeld.1
    have hG := hHeld.2.1
    have hU := hHeld.2.2
    clear hHeld
    have k0 := (hT 0 (by omega)).1
    have c0 := (hG 0 (by omega)).1
    have z0 := (hG 0 (by omega)).2
    have c1 := (hG 1 (by omega)).1
    have z1 := (hG 1 (by omega)).2
    simp only [peF] at c0 c1
    have HG := Lib.hid hG
    clear hG hT
    go_wp2_with fail
    try rw [HK1.out]
    go_ret
    refine ⟨rfl, ⟨((HG.out.set _ (by omega)).set _ (by omega)).ext (fun j hj => ?_), fun _ => ((hMer9d.cell (show g ≠ m from fun e => hmg e.symm)).cell (show g ≠ m from fun e => hmg e.symm)), HF.out, HL.out⟩, (hU.set (.inl rfl) _).set (.inl rfl) _⟩
    have hj3 : j = 0 ∨ j = 1 ∨ j = 2 := by omega
    rcases hj3 with rfl | rfl | rfl <;> rfl
  · rw [if_pos (by rfl)]
    obtain ⟨st, r10, hr, hNr10, hq⟩ := entry_at hMrd HL.out
    rw [HY.out] at hr
    have hMr10 := hNr10.mp
    refine wp_entry _ _ _ rfl (.map (some m)) (kyV s) (.tuple #[.int .i64 (y : Int), .int .i64 (st : Int)]) rfl rfl hr ?_
    refine hK.out _ _ ⟨(hHeld.1).buc hq (On.ne (by omega)), (hHeld.2.1).buc hq (On.ne (by omega)), (hHeld.2.2).onm hq⟩ (fun hHeld2 => ?_)
    clear hK K hHeld hr hq hMrd
    have hHeld := hHeld2
    clear hHeld2
    try simp only [Act.put, List.setIfInBounds_toArray, List.set_cons_zero, List.set_cons_succ, List.getElem_toArray, List.getElem_cons_zero, List.getElem_cons_succ]
    refine wpAnyH_take (i := 8) (v := ?vr11) rfl (by kernel_rfl) (by kernel_rfl) (by kernel_rfl) (fun _ _ _ h => h) (Or.inl ⟨by rfl, ?hyr11⟩) (by assumption) ?restr11
    case hyr11 =>
      intro W hSw
      go_simp
      try with_reducible rfl
    simp only [Act.put, List.setIfInBounds_toArray, List.set_cons_zero, List.set_cons_succ, List.getElem_toArray, List.getElem_cons_zero, List.getElem_cons_succ]
    refine wpAnyH_ready (rs := [5]) (by kernel_rfl) (by simp) ?_
    refine AllReadyH.cons rfl (fun K hK => ?_) AllReadyH.nil
    rw [if_pos (by rfl)]
    refine wp_look _ _ _ rfl (.map (some m)) (kyV s) (.int .i64 (y : Int)) rfl rfl (by rw [← HY.out]; exact look_at hMr10 HL.out) ?_
    refine hK.out _ _ hHeld (fun hHeld2 => ?_)
    clear hK K hHeld
    have hHeld := hHeld2
    clear hHeld2
    try simp only [Act.put, List.setIfInBounds_toArray, List.set_cons_zero, List.set_cons_succ, List.getElem_toArray, List.getElem_cons_zero, List.getElem_cons_succ]
    refine wpAnyH_take (i := 6) (v := ?vr12) rfl (by kernel_rfl) (by kernel_rfl) (by kernel_rfl) (fun _ _ _ h => h) (Or.inl ⟨by rfl, ?hyr12⟩) (by assumption) ?restr12
    case hyr12 =>
      intro W hSw
      have i8 := HWX.out.1
      have i9 := HWX.out.2
      go_simp
      try with_reducible rfl
    simp only [Act.put, List.setIfInBounds_toArray, List.set_cons_zero, List.set_cons_succ, List.getElem_toArray, List.getElem_cons_zero, List.getElem_cons_succ]
    refine wpAnyH_ready (rs := [9]) (by kernel_rfl) (by simp) ?_
    refine AllReadyH.cons rfl (fun K hK => ?_) AllReadyH.nil
    rw [if_pos (by rfl)]
    obtain ⟨r13, hr, hMr13, hq⟩ := store_at hNr10 x (by rw [HY.out]; exact HXY.out)
    refine wp_estore _ _ _ _ rfl (.map (some m)) (.int .i64 (st : Int)) (.int .i64 (x : Int)) rfl rfl rfl hr ?_
    refine hK.out _ _ ⟨(hHeld.1).buc hq (On.ne (by omega)), (hHeld.2.1).buc hq (On.ne (by omega)), (hHeld.2.2).onm hq⟩ (fun hHeld2 => ?_)
    clear hK K hHeld hr hq hMr10 hNr10
    have hHeld := hHeld2
    clear hHeld2
    try simp only [Act.put]
    refine wpAnyH_done (by kernel_rfl) ?_ _
    have hTr13 := hHeld.1
    have hGr13 := hHeld.2.1
    have hUr13 := hHeld.2.2
    clear hHeld
    go_wp2_with fail
    have hMer13d := hMr13.drew
    refine wp_region_held_drew (S := fun W => Cx W p 1 (fun _ => .string s) ∧ Cx W g 3 (peF A k (some m)) ∧ Buc (Tw g m) w W) (by kernel_rfl) ⟨hTr13.drew, hGr13.drew, hUr13.drew⟩ (fun hHeld => ?_)
    clear hTr13 hGr13 hUr13 hMr13
    generalize World.drew r13 = er13d at *
    refine wpAnyH_take (i := 0) (v := ?ver131) rfl (by kernel_rfl) (by kernel_rfl) (by kernel_rfl) (fun _ _ _ h => h) (Or.inl ⟨by rfl, ?hyer131⟩) (by assumption) ?rester131
    case hyer131 =>
      intro W hSw
      have k0 := (hSw.1 0 (by omega)).1
      go_simp
      try with_reducible rfl
    simp only [Act.put, List.setIfInBounds_toArray, List.set_cons_zero, List.set_cons_succ, List.getElem_toArray, List.getElem_cons_zero]
    refine wpAnyH_take (i := 1) (v := ?ver132) rfl (by kernel_rfl) (by kernel_rfl) (by kernel_rfl) (fun _ _ _ h => h) (Or.inl ⟨by rfl, ?hyer132⟩) (by assumption) ?rester132
    case hyer132 =>
      intro W hSw
      go_simp
      try with_reducible rfl
    simp only [Act.put, List.setIfInBounds_toArray, List.set_cons_zero, List.set_cons_succ, List.getElem_toArray, List.getElem_cons_zero, List.getElem_cons_succ]
    refine wpAnyH_take (i := 2) (v := ?ver133) rfl (by kernel_rfl) (by kernel_rfl) (by kernel_rfl) (fun _ _ _ h => h) (Or.inl ⟨by rfl, ?hyer133⟩) (by assumption) ?rester133
    case hyer133 =>
      intro W hSw
      go_simp
      try with_reducible rfl
    simp only [Act.put, List.setIfInBounds_toArray, List.set_cons_zero, List.set_cons_succ, List.getElem_toArray, List.getElem_cons_zero, List.getElem_cons_succ]
    refine wpAnyH_take (i := 3) (v := ?ver134) rfl (by kernel_rfl) (by kernel_rfl) (by kernel_rfl) (fun _ _ _ h => h) (Or.inl ⟨by rfl, ?hyer134⟩) (by assumption) ?rester134
    case hyer134 =>
      intro W hSw
      go_simp
      try with_reducible rfl
    simp only [Act.put, List.setIfInBounds_toArray, List.set_cons_zero, List.set_cons_succ, List.getElem_toArray, List.getElem_cons_zero, List.getElem_cons_succ]
    refine wpAnyH_take (i := 4) (v := ?ver135) rfl (by kernel_rfl) (by kernel_rfl) (by kernel_rfl) (fun _ _ _ h => h) (Or.inl ⟨by rfl, ?hyer135⟩) (by assumption) ?rester135
    case hyer135 =>
      intro W hSw
      have c0 := (hSw.2.1 0 (by omega)).1
      simp only [peF] at c0
      go_simp
      try with_reducible rfl
    simp only [Act.put, List.setIfInBounds_toArray, List.set_cons_zero, List.set_cons_succ, List.getElem_toArray, List.getElem_cons_zero, List.getElem_cons_succ]
    refine wpAnyH_take (i := 5) (v := .bool false) rfl (by kernel_rfl) (by kernel_rfl) (by kernel_rfl) (fun _ _ _ h => h) (Or.inl ⟨by rfl, ?hyer136⟩) (by assumption) ?rester136
    case hyer136 =>
      intro W hSw
      have e9 := HE.out
      go_simp
      try with_reducible rfl
    simp only [Act.put, List.setIfInBounds_toArray, List.set_cons_zero, List.set_cons_succ, List.getElem_toArray, List.getElem_cons_zero, List.getElem_cons_succ]
    refine wpAnyH_done (by kernel_rfl) ?_ _
    have hT := hHeld.1
    have hG := hHeld.2.1
    have hU := hHeld.2.2
    clear hHeld
    have k0 := (hT 0 (by omega)).1
    have c0 := (hG 0 (by omega)).1
    have z0 := (hG 0 (by omega)).2
    have c1 := (hG 1 (by omega)).1
    have z1 := (hG 1 (by omega)).2
    simp only [peF] at c0 c1
    have HG := Lib.hid hG
    clear hG hT
    go_wp2_with fail
    try rw [HK1.out]
    go_ret
    refine ⟨rfl, ⟨((HG.out.set _ (by omega)).set _ (by omega)).ext (fun j hj => ?_), fun _ => ((hMer13d.cell (show g ≠ m from fun e => hmg e.symm)).cell (show g ≠ m from fun e => hmg e.symm)), HF.out, HL.out⟩, (hU.set (.inl rfl) _).set (.inl rfl) _⟩
    have hj3 : j = 0 ∨ j = 1 ∨ j = 2 := by omega
    rcases hj3 with rfl | rfl | rfl <;> rfl
end Go.Proofs.Ytfpniipbdkdhlaa
