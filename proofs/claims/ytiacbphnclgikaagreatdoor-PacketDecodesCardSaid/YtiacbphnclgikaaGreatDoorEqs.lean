/-
 Blocks of 16 bytes compared; blocks of zeros built. No condition.
-/
import Derived.Test.YtiacbphnclgikaaGreatDoorFre
import Derived.Test.YtiacbphnclgikaaGreatDoorGke
namespace Go.Proofs.YtiacbphnclgikaaGreatDoor
open Go.RowKit
set_option linter.unusedVariables false
set_option maxRecDepth 100000
theorem eq16_true {f g:Nat→Nat} (h: ∀j,j<16→f j=g j) (w:World):(Op.equalIn 10000 22 (.agg (arL 16 f).toArray) (.agg (arL 16 g).toArray)).run Tryz.prog w= .ok true w:=by
 have:=run_equalIn_arr (P:=Tryz.prog) (n:=16) Tryz.arr16 Tryz.underlying5 (by kernel_rfl) 9998 f g w
 rwa [decide_eq_true h]at this
theorem eq16_false {f g:Nat→Nat} (h: ¬ ∀j,j<16→f j=g j) (w:World):(Op.equalIn 10000 22 (.agg (arL 16 f).toArray) (.agg (arL 16 g).toArray)).run Tryz.prog w= .ok false w:=by
 have:=run_equalIn_arr (P:=Tryz.prog) (n:=16) Tryz.arr16 Tryz.underlying5 (by kernel_rfl) 9998 f g w
 rwa [decide_eq_false h]at this
theorem Tryz.eqg16:Tryz.prog.eqGuardType Tryz.prog.depth 22=false:=by kernel_rfl
theorem run_zero16 (w:World):(Instr.build 22 #[]).run Tryz.prog w= .ok (.agg (arL 16 fun _=>0).toArray) w:=run_build w _ _ _ (by kernel_rfl)
theorem run_one16 (w:World):(Instr.build 22 #[(0,.int .u8 1)]).run Tryz.prog w= .ok (.agg (arL 16 fun i=>if i=0 then 1 else 0).toArray) w:=run_build w _ _ _ (by kernel_rfl)
end Go.Proofs.YtiacbphnclgikaaGreatDoor
