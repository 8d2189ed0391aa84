/-
 A region that draws its order of evaluation inside a round of a loop over an iterator: walked as anywhere else. No condition; nothing of the program is named here.
-/
import Derived.Test.YthfnpjjckpnfbaaGreatDoorBwi
import Derived.OrdersIn
import Derived.Deep.RegionHeld3
import Derived.RangeFuncCalls
namespace Go.Proofs.YthfnpjjckpnfbaaGreatDoor
open Go.RowKit
set_option linter.unusedVariables false
/-- The way on alone: no panic, no way out. -/
def OnlyN (Q : Exit → Act → World → Prop) : Exit → Act → World → Prop
 | .normal, a, w => Q .normal a w
 | _, _, _ => False
theorem OnlyN.imp {Q : Exit → Act → World → Prop} (e : Exit) (a : Act) (w : World) (h : OnlyN Q e a w) : Q e a w := by
 cases e <;> first | exact h | exact (h : False).elim
section
variable {P : Program} {n l : Nat} {ops : Array Oper} {Q : Exit → Act → World → Prop} {md : Region.Mode}
theorem uponIn_of_upon {o : Oper} {a : Act} {next : Act → World → Prop} : ∀ r : Result Next, o.upon P a next Q r → o.uponIn (Fence.wide.inRound l) n P a next Q r := by
 intro r h
 cases r with
 | ok x w' =>
  cases x with
  | enter f args => exact ⟨fun h0 => by simp [Fence.wide, Fence.inRound] at h0, CallsIn.inRound l (callsIn_wide.2 h)⟩
  | row rw_ args => exact ⟨fun h0 => by simp [Fence.wide, Fence.inRound] at h0, fun c cs _ => let ⟨v, w9, h1, h2⟩ := h c cs; ⟨v, w9, h1, stepsIn_wide.2 h2⟩⟩
  | value v => exact h
  | skip => exact h
  | defer d => exact h
  | _ => exact (h : False).elim
 | halt x w' =>
  cases x with
  | panic v => exact h
  | _ => exact (h : False).elim
theorem wpIn_of_wp {o : Oper} {a : Act} {w : World} {K : Act → World → Prop} (hd : ∀ c, o.op ≠ .defer c) (h : o.wp P a w K Q) : o.wpIn (Fence.wide.inRound l) n P a w K Q := by
 unfold Oper.wpIn
 refine ⟨fun _ _ => trivial, ?_⟩
 rw [Oper.semAt_plain _ _ _ hd]
 exact uponIn_of_upon _ h
def calmOps (ops : Array Oper) : Bool := ops.all fun o => match o.op with | .defer _ => false | _ => true
theorem calmOps_spec (h : calmOps ops = true) {i : Nat} {o : Oper} (hi : ops[i]? = some o) : ∀ c, o.op ≠ .defer c := by
 intro c hc
 obtain ⟨hlt, he⟩ := Array.getElem?_eq_some_iff.1 hi
 have h1 := (Array.all_eq_true_iff_forall_mem.1 h) o (by rw [← he]; exact Array.getElem_mem hlt)
 rw [hc] at h1
 exact absurd h1 (by simp)
theorem wpOpIn_of {i : Nat} {a : Act} {w : World} {K : Act → World → Prop} (hd : calmOps ops = true) (hno : ¬ LetsOut Q) (h : wpOp P ops Q i K a w) : wpOpIn (Fence.wide.inRound l) n P ops Q i K a w := by
 unfold wpOp at h
 unfold wpOpIn
 cases hi : ops[i]? with
 | none => simp only [hi] at h ⊢; exact h
 | some o =>
  simp only [hi] at h ⊢
  by_cases hw : Region.wanted o (yielded ops a.tmps) = true
  ·rw [if_pos hw] at h ⊢
   exact wpIn_of_wp (calmOps_spec hd hi) (h.resolve_right (fun h2 => hno h2.2))
  ·rw [if_neg hw] at h ⊢
   exact ⟨fun _ _ => trivial, h⟩
theorem wpAnyIn_of (hd : calmOps ops = true) (hno : ¬ LetsOut Q) : ∀ (fuel : Nat) (listed : Array Bool) (a : Act) (w : World), wpAny P md ops Q fuel listed a w → wpAnyIn (Fence.wide.inRound l) n P md ops Q fuel listed a w
 | 0, _, _, _, h => h
 | fuel + 1, listed, a, w, h => ⟨h.1, fun i hi => wpOpIn_mono (fun a' w' h' => wpAnyIn_of hd hno fuel _ a' w' h') (wpOpIn_of hd hno (h.2 i hi))⟩
theorem wpIn_region_calm {S : World → Prop} {id : Nat} {a : Act} {w : World} (hm : P.follows .mixedOrders = true) (hd : calmOps ops = true) (hS : S w.drew)
  (h : S w.drew → wpAnyH P .any ops (OnlyN Q) S ops.size (Array.replicate ops.size false) a w.drew) : (Code.region id ops true).wpIn (Fence.wide.inRound l) n P Q a w :=
 wpIn_mono (wpIn_region_any hm (wpAnyIn_of hd (fun h0 => by obtain ⟨_, _, h1⟩ := h0; exact h1) _ _ _ _ (wpAny_of_held _ _ _ _ (h hS)))) OnlyN.imp
end
end Go.Proofs.YthfnpjjckpnfbaaGreatDoor
