/-
  The iterator that hash.numbered returns, by a walk through its text: it yields the indices, from 1 on, and the blocks of a list, in order, as often as it is used, until a round says that it wants no more; what was there stays as it was.
-/
import Derived.Test.YtflbpohcoghonaaDoorHaa
import Derived.Test.YtflbpohcoghonaaDoorBks
import Derived.Test.YtflbpohcoghonaaDoorBkg
namespace Go.Proofs.YtflbpohcoghonaaDoor
open Go.RowKit
set_option linter.unusedVariables false
set_option maxRecDepth 100000

open Go.Shelf
attribute [local go_sem] Oper.semAt_some
/-- What yield is handed in the round k. -/
def fE (P : Nat → Nat → Nat) (k : Nat) : Array Value := #[.int .i64 ((k + 1 : Nat) : Int), .agg (arL 16 (P k)).toArray]
set_option maxHeartbeats 2000000 in
theorem num1 (n : Nat) (hn : 1 ≤ n) (l Bs : Nat) (A : Option Addr) (m c : Nat) (P : Nat → Nat → Nat) (w W : World) (hm : m ≤ 1000000) (hS : S16 w A m P) (hBs : w.cell? ⟨Bs, 0, none⟩ = some (.slice A m c)) (hBl : Bs < w.heap.size) (hW : Below w.heap.size w W)
    (J Jx : List Nat → World → Prop) (hJ : AbidesFrom W.heap.size J)
    (hY : ∀ pre x W1, J pre W1 → pre.length < m → YieldAt Fence.wide (n - 1) Tryd.prog l (fE P x) W1 fun e W' =>
      (e = .returned (.bool true) ∧ J (pre ++ [x]) W' ∧ Below w.heap.size W1 W') ∨ (e = .returned (.bool false) ∧ Jx (pre ++ [x]) W')) (h0 : J [] W) :
    CallsIn Fence.wide n Tryd.prog 59 #[.func (.yield l) #[] #[], .pointer (some ⟨Bs, 0, none⟩)] W fun e W' => (∃ v, e = .returned v) ∧
      ((∃ ys, ys = List.range m ∧ J ys W') ∨ (∃ pre, (∃ k, k ≤ m ∧ pre = List.range k) ∧ Jx pre W')) := by
  have hz := zero16x
  refine callsIn_of_wp Tryd.func59 rfl trivial ?_ rfl
  simp only [Tryd.ntmps59, List.size_toArray, List.length_cons, List.length_nil, Nat.reduceAdd, Nat.reduceSub, Array.replicate_succ, Array.replicate_zero, List.push_toArray, List.append_toArray, List.nil_append, List.cons_append]
  refine wpIn_wide.2 ?_
  have HY := Lib.hid hY
  have HJ := Lib.hid hJ
  have HS := Lib.hid hS
  have HM := Lib.hid hm
  have c0 := (hW.cell (p := ⟨Bs, 0, none⟩) hBl).trans hBs
  clear hY hJ hS
  go_wp2_with fail
  clear c0
  go_loopw [7] (fun i wr => ∃ k : Nat, k ≤ m ∧ i = .int .i64 k ∧ J (List.range k) wr ∧ Below w.heap.size w wr) (fun i _ => m - (intOf i).toNat)
  case atStart => exact ⟨0, Nat.zero_le _, rfl, h0, hW⟩
  case round =>
    clear hW h0
    obtain ⟨k, hk, rfl, hJs, hB⟩ := hrel
    by_cases hlt : k < m
    · have i1 : (k : Int) < (m : Int) := by omega
      have hw0 := hB.size
      obtain ⟨b, o, rfl, hbl, hr0⟩ := (HS.out.to hB) (by omega)
      have hr := hr0 k hlt
      clear hr0
      obtain ⟨w1, hw1⟩ : ∃ V : World, V = wr.alloc (.cells (arL 16 fun _ => 0).toArray 22) := ⟨_, rfl⟩
      have hT1 : Ar w1 wr.heap.size 16 (fun _ => 0) := by rw [hw1]; exact Ar.new wr 16 _ _
      have hb1 : Below wr.heap.size wr w1 := by rw [hw1]; exact (Below.refl _ _).alloc (Nat.le_refl _) _
      go_upto_region 3 with (first
        | (refine wpList_load_mid rfl _ _ rfl b (o + k * 16) rfl (arL 16 (P k)) _ hr Tryd.arr16x rfl (size16x _) ?_)
        | (refine wpList_store_ar rfl _ _ _ rfl _ _ _ (P k) rfl rfl (by rw [← hw1]; exact hT1) (size16x _) ?_; intro w2 hT2 bel2 siz2 kee2)
        | fail)
      rw [← hw1] at bel2 siz2 kee2
      obtain ⟨gP, hgP⟩ : ∃ g : Nat, wr.heap.size = g := ⟨_, rfl⟩
      try rw [hgP]
      rw [hgP] at hT2
      have hb3 : Below wr.heap.size wr w2 := hb1.trans bel2
      have hJ2 := abides_new HJ.out hJs hb3
      have hB2 := hB.trans (hb3.mono hw0)
      clear hw1 hT1 hb1 bel2 siz2 kee2 hr hJs hgP
      have hYk := HY.out (List.range k) k w2 hJ2 (by simpa using hlt)
      obtain ⟨fn, tmps, assign, body, hy, hR⟩ := hYk
      dsimp only [fE] at hy
      have y1 : ((k + 1 : Nat) : Int) = (k : Int) + 1 := by omega
      have hmm := HM.out
      rw [y1] at hy
      try dsimp only [Act.put]
      refine (wpIn_wide (n := n)).1 ?_
      gi_wp2_with (refine wpListIn_load_ar rfl _ _ rfl _ _ _ rfl hT2 Tryd.arr16x (size16x _) ?_)
      clear hy y1 hT2
      refine hR.mono ?_
      rintro e W3 (⟨rfl, hJ3, hk3⟩ | ⟨rfl, hJx3⟩)
      · gi_wp2
        go_wp2_with fail
        go_roundw
        case rel => exact ⟨k + 1, by omega, by go_num, by rw [List.range_succ]; exact hJ3, hB2.trans hk3⟩
        case measure => simp [intOf]; omega
      · gi_wp2
        go_wp2_with fail
        refine bodyPost_ret (results_none rfl _ _ _) rfl ?_
        exact ⟨⟨_, rfl⟩, .inr ⟨_, ⟨k + 1, by omega, (List.range_succ).symm⟩, hJx3⟩⟩
    · obtain rfl : k = m := by omega
      go_wp2_with fail
      go_end0
      exact ⟨⟨_, rfl⟩, .inl ⟨_, rfl, hJs⟩⟩
theorem num_stops (n : Nat) (hn : 1 ≤ n) (Bs : Nat) (A : Option Addr) (m c : Nat) (P : Nat → Nat → Nat) (w : World) (hm : m ≤ 1000000) (hS : S16 w A m P) (hBs : w.cell? ⟨Bs, 0, none⟩ = some (.slice A m c)) (hBl : Bs < w.heap.size) :
    SeqStopsK Fence.wide n Tryd.prog 59 #[.pointer (some ⟨Bs, 0, none⟩)] (fE P) (Below w.heap.size) (fun ys => ys = List.range m) (fun pre => ∃ k, k ≤ m ∧ pre = List.range k) m w := fun l J Jx W hW hJ _ hY h0 =>
  num1 n hn l Bs A m c P w W hm hS hBs hBl hW J Jx hJ hY h0
set_option maxHeartbeats 800000 in
theorem hnum (A : Option Addr) (n c : Nat) (w : World) :
    Calls Tryd.prog 33 #[.slice A n c] w fun e w' => e = .returned (.func (.func 59) #[] #[.pointer (some ⟨w.heap.size, 0, none⟩)]) ∧ w' = w.alloc (.cells #[.slice A n c] 37) := by
  have hmf : ∀ (fn : Fn) (first cap : Array Value) (w : World), (Instr.makeFunc fn first cap).run Tryd.prog w = .ok (.func fn first cap) w := fun _ _ _ _ => rfl
  go_enter Tryd.func33, Tryd.ntmps33
  go_wp2_with fail
  go_ret
  exact ⟨rfl, rfl⟩
end Go.Proofs.YtflbpohcoghonaaDoor
