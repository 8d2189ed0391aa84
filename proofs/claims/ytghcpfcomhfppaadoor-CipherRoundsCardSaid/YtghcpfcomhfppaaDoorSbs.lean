/-
  What the table of S-boxes holds, and the contract of sbox.S over it by a walk through its text, for any byte; nothing is written.
-/
import Derived.Test.YtghcpfcomhfppaaDoorFre
import Derived.Deep.Cut
namespace Go.Proofs.YtghcpfcomhfppaaDoor
open Go.RowKit
set_option linter.unusedVariables false
set_option maxRecDepth 10000

def boxV : List Value := arL 256 sb
/-- The package-level table holds the S-boxes. -/
def Boxes (w : World) : Prop := w.rangeAt 0 0 boxV
theorem boxV_len : boxV.length = 256 := arL_len _ _
theorem boxV_get (b : Nat) (h : b < 256) : boxV[b]? = some (.int .u8 (sb b : Nat)) := arL_get _ _ _ h
theorem Boxes.at_ {w : World} (h : Boxes w) (b : Nat) (hb : b < 256) : w.cell? ⟨0, b, none⟩ = some (.int .u8 (sb b : Nat)) := by
  have := h b _ (boxV_get b hb)
  rwa [Nat.zero_add] at this
theorem Boxes.lt {w : World} (h : Boxes w) : 0 < w.heap.size := by
  have h1 := h.at_ 0 (by omega)
  rcases Nat.lt_or_ge 0 w.heap.size with h2 | h2
  · exact h2
  · simp [World.cell?, Array.getElem?_eq_none h2] at h1
theorem Boxes.keep {w w' : World} (h : Boxes w) (hb : Below w.heap.size w w') : Boxes w' := fun j v hv => (hb.cell (p := ⟨0, 0 + j, none⟩) h.lt).trans (h j v hv)

/-- The same as one value. -/
def boxA : Array Value := boxV.toArray
theorem boxA_def : boxV.toArray = boxA := rfl
theorem boxA_get (b : Nat) (h : b < 256) : boxA[b]? = some (.int .u8 (sb b : Nat)) := by
  rw [boxA, List.getElem?_toArray]; exact boxV_get b h
theorem run_index_arr {P : Program} {t e : TypeId} {n : Nat} {d : TypeDesc} (hu : P.underlying t = some (.array n e)) (he : P.underlying e = some d) (hd : d.isRow = false) (hs : (P.info? e).map (·.size) = some 1)
    (cs : Array Value) (i : Nat) (u : Value) (hi : i < n) (hg : cs[i]? = some u) (w : World) : (Instr.index t (.agg cs) (.int .i64 i)).run P w = .ok u w := by
  cases hq : P.info? e with
  | none => simp [hq] at hs
  | some q =>
    have hq1 : q.size = 1 := by simpa [hq] using hs
    have hagg : (isAgg e).run P w = .ok false w := by
      unfold isAgg
      rw [Sem.run_bind, run_underlying he w]
      cases d <;> simp_all
    simp [Instr.index, run_underlying hu, asIntOf, hi, sizeOf, typeInfo, hq, hq1, part, hagg, hg]
theorem Tryd.arr256 : Tryd.prog.underlying 27 = some (.array 256 5) := by kernel_rfl
theorem Tryd.size256 : (Tryd.prog.info? 27).map (·.size) = some boxV.length := by rw [boxV_len]; kernel_rfl
theorem Tryd.zero256 : (Tryd.prog.info? 27).map (fun i => (i.zero, i.size)) = some (some (.agg (Array.replicate 256 (.int .u8 0))), 256) := by kernel_rfl
theorem zero256 (w : World) : (zeroValue 27).run Tryd.prog w = .ok (.agg (arL 256 fun _ => 0).toArray) w := by
  rw [arL_zero]; exact (zero_of_info Tryd.zero256).1 w
theorem size_arL (f : Nat → Nat) : (Tryd.prog.info? 27).map (·.size) = some (arL 256 f).length := by rw [arL_len]; exact (zero_of_info Tryd.zero256).2
theorem box_ix (n : Nat) (h : n < 256) (w : World) : (Instr.index 27 (.agg boxA) (.int .i64 n)).run Tryd.prog w = .ok (.int .u8 (sb n : Nat)) w :=
  run_index_arr Tryd.arr256 Tryd.underlying5 rfl (by kernel_rfl) boxA n _ h (boxA_get n h) w

theorem sboxS (b : Nat) (w : World) (hb : b < 256) (h : Boxes w) :
    Calls Tryd.prog 33 #[.int .u8 b] w fun e w' => e = .returned (.int .u8 (sb b : Nat)) ∧ w' = w := by
  have hc := h.at_ b hb
  have h1 : (b : Int) < 256 := by omega
  go_enter Tryd.func33, Tryd.ntmps33
  go_wp2
  go_ret
  exact ⟨rfl, rfl⟩
end Go.Proofs.YtghcpfcomhfppaaDoor
