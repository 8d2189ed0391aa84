/-
 The check of the documentation's examples of layer 6 returns true. No condition but what the table holds; what was there stays as it was.
-/
import Derived.Test.YtiacbphnclgikaaGreatDoorGcf
import Derived.Test.YtiacbphnclgikaaGreatDoorFre
import Derived.Test.YtiacbphnclgikaaGreatDoorEqs
import Derived.Test.YtiacbphnclgikaaGreatDoorArg
namespace Go.Proofs.YtiacbphnclgikaaGreatDoor
open Go.RowKit
set_option linter.unusedVariables false
set_option maxRecDepth 100000
theorem run_mix1 (w:World):(Instr.build 22 #[(0,.int .u8 2),(1,.int .u8 1),(2,.int .u8 1),(3,.int .u8 3)]).run Tryz.prog w= .ok (.agg (arL 16 (lst [2,1,1,3])).toArray) w:=run_build w _ _ _ (by kernel_rfl)
theorem run_sh5 (w:World):(Instr.build 22 #[(5,.int .u8 7)]).run Tryz.prog w= .ok (.agg (arL 16 (lst [0,0,0,0,0,7])).toArray) w:=run_build w _ _ _ (by kernel_rfl)
theorem run_sh1 (w:World):(Instr.build 22 #[(1,.int .u8 7)]).run Tryz.prog w= .ok (.agg (arL 16 (lst [0,7])).toArray) w:=run_build w _ _ _ (by kernel_rfl)
theorem run_one (w:World):(Instr.build 22 #[(0,.int .u8 1)]).run Tryz.prog w= .ok (.agg (arL 16 (lst [1])).toArray) w:=run_build w _ _ _ (by kernel_rfl)
theorem mix_one:arL 16 (miF (lst [1]))=arL 16 (lst [2,1,1,3]):=arL_ext (by decide+kernel)
theorem shift_five:arL 16 (shF (lst [0,0,0,0,0,7]))=arL 16 (lst [0,7]):=arL_ext (by decide+kernel)
theorem lst_one_lt:B16 (lst [1]):=by unfold B16;decide+kernel
theorem zF_lt:B16 zF:=fun _ _=>by unfold zF;omega
end Go.Proofs.YtiacbphnclgikaaGreatDoor
