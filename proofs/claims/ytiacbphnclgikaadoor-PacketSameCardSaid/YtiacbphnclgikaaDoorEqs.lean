/-
 Blocks of 16 bytes compared; blocks of zeros built. No condition.
-/
import Derived.Test.YtiacbphnclgikaaDoorFre
import Derived.Test.YtiacbphnclgikaaDoorGke
namespace Go.Proofs.YtiacbphnclgikaaDoor
open Go.RowKit
set_option linter.unusedVariables false
set_option maxRecDepth 100000
theorem eq16_true {f g:Nat→Nat} (h: ∀j,j<16→f j=g j) (w:World):(Op.equalIn 10000 35 (.agg (arL 16 f).toArray) (.agg (arL 16 g).toArray)).run Tryd.prog w= .ok true w:=by
 have:=run_equalIn_arr (P:=Tryd.prog) (n:=16) Tryd.arr16 Tryd.underlying5 (by kernel_rfl) 9998 f g w
 rwa [decide_eq_true h]at this
theorem eq16_false {f g:Nat→Nat} (h: ¬ ∀j,j<16→f j=g j) (w:World):(Op.equalIn 10000 35 (.agg (arL 16 f).toArray) (.agg (arL 16 g).toArray)).run Tryd.prog w= .ok false w:=by
 have:=run_equalIn_arr (P:=Tryd.prog) (n:=16) Tryd.arr16 Tryd.underlying5 (by kernel_rfl) 9998 f g w
 rwa [decide_eq_false h]at this
theorem Tryd.eqg16:Tryd.prog.eqGuardType Tryd.prog.depth 35=false:=by kernel_rfl
theorem run_zero16 (w:World):(Instr.build 35 #[]).run Tryd.prog w= .ok (.agg (arL 16 fun _=>0).toArray) w:=run_build w _ _ _ (by kernel_rfl)
theorem run_one16 (w:World):(Instr.build 35 #[(0,.int .u8 1)]).run Tryd.prog w= .ok (.agg (arL 16 fun i=>if i=0 then 1 else 0).toArray) w:=run_build w _ _ _ (by kernel_rfl)
end Go.Proofs.YtiacbphnclgikaaDoor
