/-
  Contracts of the reference package of layer 20. What was there stays as it was.
-/
import Derived.Test.YtmfmcbghofcafaaEca
import Derived.Deep.Cut
namespace Go.Proofs.Ytmfmcbghofcafaa
open Go.RowKit
set_option linter.unusedVariables false
set_option linter.unusedSimpArgs false
set_option maxRecDepth 100000

/-- A keeper of the reference: whether there is a stamp, the stamp, its tick. -/
def kpF (z : Bool) (s t : Nat) : Nat → Value
  | 0 => .bool z | 1 => .int .i64 (s : Int) | _ => .int .u64 (t : Int)
/-- The estimate of n samples. -/
def esF (H : Nat → Nat) : Nat → Nat
  | 0 => 0
  | n + 1 => esN n (esF H n) (H n)
theorem esF_le {H : Nat → Nat} {n : Nat} (h : ∀ j, j < n → H j < 65536) : esF H n ≤ 524287 := by
  induction n with
  | zero => exact Nat.zero_le _
  | succ n ih => exact esN_le (ih (fun j hj => h j (by omega))) (h n (by omega))
theorem But.sets {S : Nat → Prop} {w W : World} {g : Nat} (hg : S g) (vs : List Value) : ∀ o, But S w W → But S w (W.setCells g o vs) := by
  induction vs generalizing W with
  | nil => intro o h; exact h
  | cons v r ih => intro o h; rw [World.setCells]; exact ih (o + 1) (h.set (p := ⟨g, o, none⟩) hg v)
/-- A keeper of the reference is written whole. -/
theorem kp_put {w : World} {g : Nat} {z z2 : Bool} {s t s2 t2 : Nat} (h : Cx w g 3 (kpF z s t)) : Cx (w.setCells g 0 [.bool z2, .int .i64 (s2 : Int), .int .u64 (t2 : Int)]) g 3 (kpF z2 s2 t2) :=
  (h.put 0 [.bool z2, .int .i64 (s2 : Int), .int .u64 (t2 : Int)] (by simp)).ext (fun j hj => by
    have hj3 : j = 0 ∨ j = 1 ∨ j = 2 := by omega
    rcases hj3 with rfl | rfl | rfl <;> rfl)
theorem kp_one (z : Bool) (s t : Nat) : ∀ v ∈ [Value.bool z, .int .i64 (s : Int), .int .u64 (t : Int)], v.oneCell' = true := by
  intro v hv
  simp at hv
  rcases hv with rfl | rfl | rfl <;> rfl
theorem kp_range {w : World} {g : Nat} {z : Bool} {s t : Nat} (h : Cx w g 3 (kpF z s t)) : w.rangeAt g 0 [.bool z, .int .i64 (s : Int), .int .u64 (t : Int)] := fun j v hv => by
  rw [Nat.zero_add]
  match j, hv with
  | 0, hv => simp at hv; subst hv; exact (h 0 (by omega)).1
  | 1, hv => simp at hv; subst hv; exact (h 1 (by omega)).1
  | 2, hv => simp at hv; subst hv; exact (h 2 (by omega)).1
  | j + 3, hv => simp at hv

set_option maxHeartbeats 1600000 in
theorem rheld (z : Bool) (s t x : Nat) (w : World) (hx : x < 18446744073709551616) :
    Calls Try.prog 11 #[.agg #[.bool z, .int .i64 (s : Int), .int .u64 (t : Int)], .int .u64 (x : Int)] w fun e w' => e = .returned (.int .u64 ((x - t : Nat) : Int)) ∧ Below w.heap.size w w' := by
  by_cases h : t < x
  · have i1 : (x : Int) > (t : Int) := by omega
    obtain ⟨d, hd⟩ : ∃ d, x - t = d := ⟨_, rfl⟩
    have a1 := Lib.hid (show IntKind.u64.wrap ((x : Int) - (t : Int)) = (d : Int) by rw [IntKind.wrap_u64]; omega)
    rw [hd]
    clear hd hx h
    go_enter Try.func11, Try.ntmps11
    go_wp2_with fail
    try rw [a1.out]
    go_ret
    exact ⟨rfl, (Below.refl _ _).alloc (Nat.le_refl _) _⟩
  · have i1 : ¬ (x : Int) > (t : Int) := by omega
    rw [show x - t = 0 by omega]
    clear hx h
    go_enter Try.func11, Try.ntmps11
    go_wp2_with fail
    go_ret
    exact ⟨rfl, (Below.refl _ _).alloc (Nat.le_refl _) _⟩
theorem kept20 {s t : Nat} {w W W2 : World} (h : W.cell? ⟨w.heap.size, 0, none⟩ = some (.bool true) ∧ W.cell? ⟨w.heap.size, 1, none⟩ = some (.int .i64 (s : Int)) ∧ W.cell? ⟨w.heap.size, 2, none⟩ = some (.int .u64 (t : Int)) ∧ Cx W w.heap.size 3 (kpF true s t) ∧ Below w.heap.size w W) (hb : Below W.heap.size W W2) : W2.cell? ⟨w.heap.size, 0, none⟩ = some (.bool true) ∧ W2.cell? ⟨w.heap.size, 1, none⟩ = some (.int .i64 (s : Int)) ∧ W2.cell? ⟨w.heap.size, 2, none⟩ = some (.int .u64 (t : Int)) ∧ Cx W2 w.heap.size 3 (kpF true s t) ∧ Below w.heap.size w W2 := by
  have h1 := h.2.2.2.1.to (by omega) hb
  exact ⟨(h1 0 (by omega)).1, (h1 1 (by omega)).1, (h1 2 (by omega)).1, h1, h.2.2.2.2.trans (hb.mono h.2.2.2.2.size)⟩

set_option maxHeartbeats 1600000 in
theorem rreply (z : Bool) (s t x : Nat) (w : World) (hx : x < 18446744073709551616) (hs : s < 65536) :
    Calls Try.prog 14 #[.agg #[.bool z, .int .i64 (s : Int), .int .u64 (t : Int)], .int .u64 (x : Int)] w fun e w' => e = .returned (.int .i64 (rpE s t z x : Nat)) ∧ Below w.heap.size w w' := by
  cases z with
  | false =>
    rw [show rpE s t false x = 65535 from rfl]
    clear hx hs
    have hb : Below w.heap.size w (w.alloc (.cells #[.bool false, .int .i64 (s : Int), .int .u64 (t : Int)] 28)) := (Below.refl _ _).alloc (Nat.le_refl _) _
    have hk : Cx (w.alloc (.cells #[.bool false, .int .i64 (s : Int), .int .u64 (t : Int)] 28)) w.heap.size 3 (kpF false s t) := Cx.new w 3 (kpF false s t) _
    generalize hv : w.alloc (.cells #[.bool false, .int .i64 (s : Int), .int .u64 (t : Int)] 28) = v at hb hk
    have c0 := (hk 0 (by omega)).1
    have c1 := (hk 1 (by omega)).1
    have c2 := (hk 2 (by omega)).1
    simp only [kpF] at c0 c1 c2
    go_enter Try.func14, Try.ntmps14
    go_wp2_with fail
    go_ret
    exact ⟨rfl, hb⟩
  | true =>
    rw [show rpE s t true x = ecN s (x - t) from rfl]
    have HX := Lib.hid hx
    have HS := Lib.hid hs
    have HD := Lib.hid (show x - t < 18446744073709551616 by omega)
    obtain ⟨d, hd⟩ : ∃ d, x - t = d := ⟨_, rfl⟩
    rw [hd] at HD ⊢
    have HE := Lib.hid hd
    clear hx hs hd
    have hb : Below w.heap.size w (w.alloc (.cells #[.bool true, .int .i64 (s : Int), .int .u64 (t : Int)] 28)) := (Below.refl _ _).alloc (Nat.le_refl _) _
    have hk : Cx (w.alloc (.cells #[.bool true, .int .i64 (s : Int), .int .u64 (t : Int)] 28)) w.heap.size 3 (kpF true s t) := Cx.new w 3 (kpF true s t) _
    generalize hv : w.alloc (.cells #[.bool true, .int .i64 (s : Int), .int .u64 (t : Int)] 28) = v at hb hk
    have c0 := (hk 0 (by omega)).1
    have c1 := (hk 1 (by omega)).1
    have c2 := (hk 2 (by omega)).1
    simp only [kpF] at c0 c1 c2
    go_enter Try.func14, Try.ntmps14
    go_upto_region 3 with fail
    try rw [hv]
    clear hv
    go_region_held3 (fun W => W.cell? ⟨w.heap.size, 0, none⟩ = some (.bool true) ∧ W.cell? ⟨w.heap.size, 1, none⟩ = some (.int .i64 (s : Int)) ∧ W.cell? ⟨w.heap.size, 2, none⟩ = some (.int .u64 (t : Int)) ∧ Cx W w.heap.size 3 (kpF true s t) ∧ Below w.heap.size w W)
      (first | assumption | (exact ⟨c0, c1, c2, hk.drew, hb.drew⟩) | (exact kept20 (by assumption) (by assumption)))
      (first
      | (go_at_call 11
         refine (rheld _ _ _ _ _ HX.out).mono ?_
         rintro e w9 ⟨rfl, hb9⟩
         rw [HE.out])
      | (go_at_call 22
         refine (rstecho _ _ _ HS.out HD.out).mono ?_
         rintro e w9 ⟨rfl, rfl⟩))
    rename_i hS
    go_wp2_with fail
    go_ret
    exact ⟨rfl, hS.2.2.2.2⟩
theorem est_facts (n E s : Nat) (hn : n ≠ 0) (h : E ≤ 524287) (hs : s < 65536) : ∃ A D G : Nat, (E : Int) + 4 = (A : Int) ∧ (A : Int).tdiv 8 = (D : Int) ∧ (E : Int) - (D : Int) = (G : Int) ∧ (G : Int) + (s : Int) = ((esN n E s : Nat) : Int) ∧ A < 1000000 ∧ D < 1000000 ∧ G < 1000000 := by
  refine ⟨E + 4, (E + 4) / 8, E - (E + 4) / 8, ?_, ?_, ?_, ?_, ?_, ?_, ?_⟩
  · omega
  · rw [Int.tdiv_eq_ediv_of_nonneg (by omega)]; omega
  · omega
  · unfold esN; rw [if_neg hn]; omega
  · omega
  · omega
  · omega

set_option maxHeartbeats 1600000 in
theorem restimate (A : Option Addr) (n c B : Nat) (H : Nat → Nat) (w : World) (h : Hs w B A n H) (hF : ∀ j, j < n → H j < 65536) (hn : n ≤ 1000) :
    Calls Try.prog 19 #[.slice A n c] w fun e w' => e = .returned (.int .i64 (esF H n : Nat)) ∧ w' = w := by
  obtain ⟨V, hV⟩ : ∃ V, esF H n = V := ⟨_, rfl⟩
  rw [hV]
  have HV := Lib.hid hV
  have HF := Lib.hid hF
  clear hV hF
  go_enter Try.func19, Try.ntmps19
  go_wp2_with fail
  go_loopw [3, 4] (fun v i wr => ∃ r V : Nat, r ≤ n ∧ v = .int .i64 (V : Int) ∧ i = .int .i64 (r : Int) ∧ Hid (esF H r = V) ∧ wr = w) (fun v i _ => n - (intOf i).toNat)
  case atStart => exact ⟨0, 0, Nat.zero_le _, rfl, rfl, Lib.hid rfl, rfl⟩
  case round =>
    obtain ⟨r, E, hr, rfl, rfl, HE, rfl⟩ := hrel
    by_cases hlt : r < n
    · have i1 : (r : Int) < (n : Int) := by omega
      obtain ⟨b, off, rfl, hb, hcell⟩ := h r hlt
      have hs := HF.out r hlt
      have hE : E ≤ 524287 := by rw [← HE.out]; exact esF_le (fun j hj => HF.out j (by omega))
      have HN := Lib.hid (show esF H (r + 1) = esN r E (H r) by rw [← HE.out]; rfl)
      obtain ⟨q, hq⟩ : ∃ q, H r = q := ⟨_, rfl⟩
      rw [hq] at hcell HN hs
      clear hq
      by_cases h0 : r = 0
      · have i2 : ((r : Int) == 0) = true := by simp [h0]
        rw [show esN r E q = 8 * q from if_pos h0] at HN
        clear h0
        go_wp2_with fail
        go_roundw
        case rel => exact ⟨r + 1, 8 * q, by omega, by go_num, by go_num, HN, (by first | rfl | trivial)⟩
        case measure => simp [intOf]; omega
      · have i2 : ((r : Int) == 0) = false := by simp [h0]
        obtain ⟨A1, D, G, e1, e2, e3, e4, b1, b2, b3⟩ := est_facts r E q h0 hE hs
        obtain ⟨N, hN⟩ : ∃ N, esN r E q = N := ⟨_, rfl⟩
        rw [hN] at HN e4
        have hN2 : N ≤ 524287 := by rw [← hN]; exact esN_le hE hs
        clear hN hE h0
        go_wp2_with fail
        go_roundw
        case rel => exact ⟨r + 1, N, by omega, by go_num, by go_num, HN, (by first | rfl | trivial)⟩
        case measure => simp [intOf]; omega
    · have i1 : ¬ (r : Int) < (n : Int) := by omega
      obtain rfl : r = n := by omega
      go_wp2_with fail
      go_ret
      exact ⟨by rw [← HV.out, ← HE.out]; rfl, rfl⟩
end Go.Proofs.Ytmfmcbghofcafaa
