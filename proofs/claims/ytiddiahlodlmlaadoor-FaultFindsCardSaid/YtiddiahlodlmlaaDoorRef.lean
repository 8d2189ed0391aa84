/-
  Contracts of the reference package of layer 2 and of the laws' own function build, for a description whose parts are a slice of strings in memory. Condition: those of each theorem.
-/
import Derived.Test.YtiddiahlodlmlaaDoorTxt
import Derived.LoopTactic
namespace Go.Proofs.YtiddiahlodlmlaaDoor
open Go.RowKit Go.Extern.Stop Go.Stop Go.Extern
set_option linter.unusedVariables false
set_option maxRecDepth 20000

/-- The slice at A with n elements reads as the strings l, and lies below block B. -/
def Ss (w : World) (B : Nat) (A : Option Addr) (n : Nat) (l : List ByteArray) : Prop :=
  l.length = n ∧ (0 < n → ∃ b off, A = some ⟨b, off, none⟩ ∧ b < B ∧ ∀ j u, l[j]? = some u → w.cell? ⟨b, off + j, none⟩ = some (.string u))
theorem Ss.keep {w w' : World} {B n : Nat} {A : Option Addr} {l : List ByteArray} (h : Ss w B A n l) (hk : ∀ p : Addr, p.block < B → w'.cell? p = w.cell? p) : Ss w' B A n l :=
  ⟨h.1, fun hn => by
    obtain ⟨b, off, e, hb, hc⟩ := h.2 hn
    exact ⟨b, off, e, hb, fun j u hu => (hk ⟨b, off + j, none⟩ hb).trans (hc j u hu)⟩⟩
theorem Ss.below {w w' : World} {B B' n : Nat} {A : Option Addr} {l : List ByteArray} (h : Ss w B A n l) (hb : Below B' w w') (hB : B ≤ B') : Ss w' B A n l := h.keep fun p hp => hb.cell (by omega)
theorem Ss.more {w : World} {B B' n : Nat} {A : Option Addr} {l : List ByteArray} (h : Ss w B A n l) (hB : B ≤ B') : Ss w B' A n l :=
  ⟨h.1, fun hn => by
    obtain ⟨b, off, e, hb, hc⟩ := h.2 hn
    exact ⟨b, off, e, Nat.lt_of_lt_of_le hb hB, hc⟩⟩
theorem Ss.at_ {w : World} {B n k : Nat} {A : Option Addr} {l : List ByteArray} (h : Ss w B A n l) (hk : k < n) : ∃ b off s, A = some ⟨b, off, none⟩ ∧ b < B ∧ w.cell? ⟨b, off + k, none⟩ = some (.string s) ∧ l[k]? = some s ∧ l.take (k + 1) = l.take k ++ [s] := by
  obtain ⟨b, off, e, hb, hc⟩ := h.2 (by omega)
  have hl : k < l.length := by have := h.1; omega
  exact ⟨b, off, l[k], e, hb, hc k l[k] (List.getElem?_eq_getElem hl), List.getElem?_eq_getElem hl, by rw [List.take_succ_eq_append_getElem hl]⟩

/-- A description of an error, as a value. -/
def eV (nl : Bool) (A : Option Addr) (n c : Nat) (cd a : Int) (f : Bool) : Value := .agg #[.bool nl, .slice A n c, .int .i64 cd, .int .i64 a, .bool f]
def fewB (l : List ByteArray) (a : Int) : Bool := l.all (fun s => decide (s.size ≤ 50)) && (decide (l.length ≤ 20) && (decide (-1152921504606846976 < a) && decide (a < 1152921504606846976)))
def smallS (l : List ByteArray) : Bool := l.all (fun s => decide (s.size ≤ 50))

theorem small_snoc (l : List ByteArray) (s : ByteArray) : smallS (l ++ [s]) = (smallS l && decide (s.size ≤ 50)) := by simp [smallS]
theorem few_eq (l : List ByteArray) (a : Int) (n : Nat) (h : smallS l = true) (hl : l.length = n) : fewB l a = (decide ((n : Int) ≤ 20) && (decide (-1152921504606846976 < a) && decide (a < 1152921504606846976))) := by
  unfold smallS at h
  subst hl
  unfold fewB
  rw [h, Bool.true_and]
  congr 1
  rw [decide_eq_decide]
  omega
theorem few_no (l : List ByteArray) (a : Int) (k : Nat) (s : ByteArray) (h : l[k]? = some s) (h50 : ¬ s.size ≤ 50) : fewB l a = false := by
  unfold fewB
  rw [show l.all (fun s => decide (s.size ≤ 50)) = false from ?_, Bool.false_and]
  rw [List.all_eq_false]
  exact ⟨s, List.mem_of_getElem? h, by simpa using h50⟩
theorem ret_bool {a b : Bool} (h : a = b) : Ending.returned (.bool a) = .returned (.bool b) := by rw [h]
set_option maxHeartbeats 1600000 in
theorem few (nl : Bool) (A : Option Addr) (n c : Nat) (cd a : Int) (f : Bool) (l : List ByteArray) (w : World) (hs : Ss w w.heap.size A n l) (hn : n ≤ 9223372036854775807) :
    Calls Tryd.prog 8 #[.agg #[.bool nl, .slice A n c, .int .i64 cd, .int .i64 a, .bool f]] w fun e w' => e = .returned (.bool (fewB l a)) ∧ Below w.heap.size w w' := by
  have hb0 : Below w.heap.size w (w.alloc (.cells #[.bool nl, .slice A n c, .int .i64 cd, .int .i64 a, .bool f] 24)) := (Below.refl _ _).alloc (Nat.le_refl _) _
  have hs1 := hs.below hb0 (Nat.le_refl _)
  go_enter Tryd.func8, Tryd.ntmps8
  go_wp2_with fail
  go_loop [3] (fun i => ∃ k : Nat, k ≤ n ∧ i = .int .i64 k ∧ smallS (l.take k) = true) (fun i => n - (intOf i).toNat)
  case atStart => exact ⟨0, Nat.zero_le _, rfl, rfl⟩
  case round =>
    obtain ⟨k, hk, rfl, hall⟩ := hrel
    have Hall := Lib.hid hall
    clear hall
    by_cases hlt : k < n
    · obtain ⟨b, off, s, rfl, hb, hcell, hlk, htk⟩ := hs1.at_ hlt
      have Htk := Lib.hid htk
      have Hlk := Lib.hid hlk
      clear htk hlk
      by_cases h50 : s.size ≤ 50
      · have h5 : ¬ (50 : Int) < (s.size : Int) := by omega
        go_wp2_with fail
        go_round
        case rel => exact ⟨k + 1, by omega, by go_num, by rw [Htk.out, small_snoc, Hall.out]; simp [h50]⟩
        case measure => simp [intOf]; omega
      · have h5 : (50 : Int) < (s.size : Int) := by omega
        go_wp2_with fail
        go_ret
        exact ⟨ret_bool (few_no l a k s Hlk.out h50).symm, hb0⟩
    · have hsm := few_eq l a n (by rw [← Hall.out, List.take_of_length_le (by rw [hs.1]; omega)]) hs.1
      have Hsm := Lib.hid hsm
      clear hsm
      go_wp2_with fail
      all_goals
        go_ret
        refine ⟨ret_bool ?_, hb0⟩
        rw [Hsm.out]
        rw [Bool.eq_iff_iff]
        simp only [Bool.false_eq_true, Bool.and_eq_true, decide_eq_true_eq, false_iff]
        omega

/-! ### build -/
def mkE (l : List ByteArray) (b : Er) : Er := l.foldl (fun e p => .wrap p e) b
theorem mkE_snoc (l : List ByteArray) (s : ByteArray) (b : Er) : mkE (l ++ [s]) b = .wrap s (mkE l b) := by simp [mkE]
def baseE (cd a : Int) (f : Bool) : Er := if f then .fault cd a else .code cd
set_option maxHeartbeats 1600000 in
theorem build_true (A : Option Addr) (n c : Nat) (cd a : Int) (l : List ByteArray) (w : World) (hs : Ss w w.heap.size A n l) (hn : n ≤ 9223372036854775807) :
    Calls Tryd.prog 9 #[.agg #[.bool false, .slice A n c, .int .i64 cd, .int .i64 a, .bool true]] w fun e w' => e = .returned (.iface (mkE l (baseE cd a true)).ty (mkE l (baseE cd a true)).pay) ∧ Below w.heap.size w w' := by
  have hb0 : Below w.heap.size w (w.alloc (.cells #[.bool false, .slice A n c, .int .i64 cd, .int .i64 a, .bool true] 24)) := (Below.refl _ _).alloc (Nat.le_refl _) _
  have hs1 := hs.below hb0 (Nat.le_refl _)
  go_enter Tryd.func9, Tryd.ntmps9
  go_wp2_with fail
  go_loop [3, 4] (fun v i => ∃ k : Nat, k ≤ n ∧ i = .int .i64 k ∧ v = .iface (mkE (l.take k) (baseE cd a true)).ty (mkE (l.take k) (baseE cd a true)).pay) (fun _ i => n - (intOf i).toNat)
  case atStart => exact ⟨0, Nat.zero_le _, rfl, rfl⟩
  case round =>
    obtain ⟨k, hk, rfl, rfl⟩ := hrel
    by_cases hlt : k < n
    · obtain ⟨b, off, s, rfl, hb, hcell, hlk, htk⟩ := hs1.at_ hlt
      have Htk := Lib.hid htk
      clear htk hlk
      go_wp2_with fail
      refine (in_ s _ _ _).mono ?_
      rintro e w' ⟨rfl, rfl⟩
      go_wp2_with fail
      go_round
      case rel => exact ⟨k + 1, by omega, by go_num, by rw [Htk.out, mkE_snoc]; rfl⟩
      case measure => simp [intOf]; omega
    · have he := Lib.hid (show l.take k = l from List.take_of_length_le (by have := hs.1; omega))
      go_wp2_with fail
      go_ret
      exact ⟨by rw [he.out]; rfl, hb0⟩
set_option maxHeartbeats 1600000 in
theorem build_false (A : Option Addr) (n c : Nat) (cd a : Int) (l : List ByteArray) (w : World) (hs : Ss w w.heap.size A n l) (hn : n ≤ 9223372036854775807) :
    Calls Tryd.prog 9 #[.agg #[.bool false, .slice A n c, .int .i64 cd, .int .i64 a, .bool false]] w fun e w' => e = .returned (.iface (mkE l (baseE cd a false)).ty (mkE l (baseE cd a false)).pay) ∧ Below w.heap.size w w' := by
  have hb0 : Below w.heap.size w (w.alloc (.cells #[.bool false, .slice A n c, .int .i64 cd, .int .i64 a, .bool false] 24)) := (Below.refl _ _).alloc (Nat.le_refl _) _
  have hs1 := hs.below hb0 (Nat.le_refl _)
  go_enter Tryd.func9, Tryd.ntmps9
  go_wp2_with fail
  go_loop [3, 4] (fun v i => ∃ k : Nat, k ≤ n ∧ i = .int .i64 k ∧ v = .iface (mkE (l.take k) (baseE cd a false)).ty (mkE (l.take k) (baseE cd a false)).pay) (fun _ i => n - (intOf i).toNat)
  case atStart => exact ⟨0, Nat.zero_le _, rfl, rfl⟩
  case round =>
    obtain ⟨k, hk, rfl, rfl⟩ := hrel
    by_cases hlt : k < n
    · obtain ⟨b, off, s, rfl, hb, hcell, hlk, htk⟩ := hs1.at_ hlt
      have Htk := Lib.hid htk
      clear htk hlk
      go_wp2_with fail
      refine (in_ s _ _ _).mono ?_
      rintro e w' ⟨rfl, rfl⟩
      go_wp2_with fail
      go_round
      case rel => exact ⟨k + 1, by omega, by go_num, by rw [Htk.out, mkE_snoc]; rfl⟩
      case measure => simp [intOf]; omega
    · have he := Lib.hid (show l.take k = l from List.take_of_length_le (by have := hs.1; omega))
      go_wp2_with fail
      go_ret
      exact ⟨by rw [he.out]; rfl, hb0⟩
theorem build (A : Option Addr) (n c : Nat) (cd a : Int) (f : Bool) (l : List ByteArray) (w : World) (hs : Ss w w.heap.size A n l) (hn : n ≤ 9223372036854775807) :
    Calls Tryd.prog 9 #[.agg #[.bool false, .slice A n c, .int .i64 cd, .int .i64 a, .bool f]] w fun e w' => e = .returned (.iface (mkE l (baseE cd a f)).ty (mkE l (baseE cd a f)).pay) ∧ Below w.heap.size w w' := by
  cases f with
  | true => exact build_true A n c cd a l w hs hn
  | false => exact build_false A n c cd a l w hs hn
theorem build_nil (A : Option Addr) (n c : Nat) (cd a : Int) (f : Bool) (w : World) :
    Calls Tryd.prog 9 #[.agg #[.bool true, .slice A n c, .int .i64 cd, .int .i64 a, .bool f]] w fun e w' => e = .returned .nilIface ∧ Below w.heap.size w w' := by
  have hb0 : Below w.heap.size w (w.alloc (.cells #[.bool true, .slice A n c, .int .i64 cd, .int .i64 a, .bool f] 24)) := (Below.refl _ _).alloc (Nat.le_refl _) _
  go_enter Tryd.func9, Tryd.ntmps9
  go_wp2_with fail
  go_ret
  exact ⟨rfl, hb0⟩

/-! ### Text -/
theorem text_snoc (l : List ByteArray) (s : ByteArray) (b : Er) : (mkE (l ++ [s]) b).text = s ++ ⟨#[58, 32]⟩ ++ (mkE l b).text := by rw [mkE_snoc]; rfl
theorem text_size0 : ∀ (l : List ByteArray) (b : Er), smallS l = true → (mkE l b).text.size ≤ b.text.size + 52 * l.length := by
  intro l
  induction l with
  | nil => intro b _; simp [mkE]
  | cons s l ih =>
    intro b h
    unfold smallS at h ih
    rw [List.all_cons, Bool.and_eq_true] at h
    have h1 := ih (.wrap s b) h.2
    have h2 : (Er.wrap s b).text.size ≤ 52 + b.text.size := by
      have e1 : (Er.wrap s b).text = s ++ sepB ++ b.text := rfl
      have e2 : sepB.size = 2 := rfl
      have e3 := of_decide_eq_true h.1
      rw [e1, ByteArray.size_append, ByteArray.size_append]
      omega
    have h3 : mkE (s :: l) b = mkE l (.wrap s b) := rfl
    rw [h3, List.length_cons]
    omega
theorem text_size (b : Er) (hb : b.text.size ≤ 30) (l : List ByteArray) (h : smallS l = true) : (mkE l b).text.size ≤ 30 + 52 * l.length := by
  have := text_size0 l b h
  omega
theorem base_size (cd a : Int) (f : Bool) (h : -9223372036854775808 ≤ cd ∧ cd ≤ 9223372036854775807) : (baseE cd a f).text.size ≤ 30 := by
  have h1 := itoaB_size cd h.1 h.2
  have h2 : errB.size = 6 := rfl
  cases f <;> simp [baseE, Er.text, ByteArray.size_append, h2] <;> omega
theorem base_text (cd a : Int) (f : Bool) : (baseE cd a f).text = errB ++ itoaB cd := by cases f <;> rfl
set_option maxHeartbeats 1600000 in
theorem refText (nl : Bool) (A : Option Addr) (n c : Nat) (cd a : Int) (f : Bool) (l : List ByteArray) (w : World) (hs : Ss w w.heap.size A n l) (hn : n ≤ 20) (hsm : smallS l = true)
    (hcd : -9223372036854775808 ≤ cd ∧ cd ≤ 9223372036854775807) (b : Er) (hb : b = baseE cd a f) :
    Calls Tryd.prog 12 #[.agg #[.bool nl, .slice A n c, .int .i64 cd, .int .i64 a, .bool f]] w fun e w' => e = .returned (.string (mkE l b).text) ∧ Below w.heap.size w w' := by
  have hb0 : Below w.heap.size w (w.alloc (.cells #[.bool nl, .slice A n c, .int .i64 cd, .int .i64 a, .bool f] 24)) := (Below.refl _ _).alloc (Nat.le_refl _) _
  have hs1 := hs.below hb0 (Nat.le_refl _)
  have hbt : b.text = errB ++ itoaB cd := by rw [hb]; exact base_text cd a f
  have hbz : b.text.size ≤ 30 := by rw [hb]; exact base_size cd a f hcd
  have hsz := (neg_size cd ⟨#[101, 114, 114, 111, 114, 32]⟩ hcd.1 hcd.2 (by decide)).2
  have Hcd := Lib.hid hcd
  have Hbt := Lib.hid hbt
  have Hsm := Lib.hid hsm
  clear hb hcd hbt hsm
  go_enter Tryd.func12, Tryd.ntmps12
  go_wp2_with fail
  refine (refDecimal cd _ Hcd.out.1 Hcd.out.2).mono ?_
  rintro e w1 ⟨rfl, q, rfl⟩
  go_wp2_with fail
  go_loop [3, 4] (fun v i => ∃ k : Nat, k ≤ n ∧ i = .int .i64 k ∧ v = .string (mkE (l.take k) b).text) (fun _ i => n - (intOf i).toNat)
  case atStart => exact ⟨0, Nat.zero_le _, rfl, by rw [show (mkE (l.take 0) b) = b from rfl, Hbt.out]; rfl⟩
  case round =>
    obtain ⟨k, hk, rfl, rfl⟩ := hrel
    by_cases hlt : k < n
    · obtain ⟨b1, off, s, rfl, hb1, hcell, hlk, htk⟩ := hs1.at_ hlt
      have hsm1 : smallS (l.take k ++ [s]) = true := by
        rw [← htk]
        have := Hsm.out
        unfold smallS at *
        rw [List.all_eq_true] at *
        exact fun x hx => this x (List.mem_of_mem_take hx)
      rw [small_snoc] at hsm1
      simp at hsm1
      have hz := text_size b hbz _ hsm1.1
      have hlk2 : (l.take k).length ≤ k := List.length_take_le _ _
      have h1 : ¬ 9223372036854775807 < s.size + 2 := by omega
      have h2 : ¬ 9223372036854775807 < s.size + 2 + (mkE (l.take k) b).text.size := by omega
      have Htk := Lib.hid htk
      clear htk hlk hsm1 hz hlk2
      go_wp2_with fail
      go_round
      case rel => exact ⟨k + 1, by omega, by go_num, by rw [Htk.out, text_snoc]⟩
      case measure => simp [intOf]; omega
    · have he := Lib.hid (show l.take k = l from List.take_of_length_le (by have := hs.1; omega))
      go_wp2_with fail
      go_ret
      exact ⟨by rw [he.out]; rfl, hb0.trans (Dr.below ⟨q, rfl⟩ _)⟩
end Go.Proofs.YtiddiahlodlmlaaDoor
