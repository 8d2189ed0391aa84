/-
 Contract of mooringref01.Spread, by a walk through its text: a slice of its own of as many bytes as were asked for; what was there stays as it was. Contract of mooringlaw17.few.
-/
import Derived.Test.YtiacbphnclgikaaGreatDoorPkb
import Derived.Test.YtiacbphnclgikaaGreatDoorGbk
namespace Go.Proofs.YtiacbphnclgikaaGreatDoor
open Go.RowKit
set_option linter.unusedVariables false
set_option maxRecDepth 100000
theorem spread_step {y:Nat} : ∃z1 z2 z3 z4:Nat,IntKind.u64.wrap ((y:Int)*6364136223846793005)=(z1:Int)∧IntKind.u64.wrap ((z1:Int)+1442695040888963407)=(z2:Int)∧(z2:Int)/8589934592=(z3:Int)∧IntKind.u8.wrap (z3:Int)=(z4:Int)∧(z3:Int)%256=(z4:Int)∧z2<18446744073709551616∧z4<256:=by
 refine⟨y*6364136223846793005%18446744073709551616,(y*6364136223846793005%18446744073709551616+1442695040888963407)%18446744073709551616,(y*6364136223846793005%18446744073709551616+1442695040888963407)%18446744073709551616/8589934592,(y*6364136223846793005%18446744073709551616+1442695040888963407)%18446744073709551616/8589934592%256,?_,?_,?_,?_,?_,?_,?_⟩
 ·rw [IntKind.wrap_u64];omega
 ·rw [IntKind.wrap_u64];omega
 ·omega
 ·rw [IntKind.wrap_u8];omega
 ·omega
 ·omega
 ·omega
theorem rfew (A:Option Addr) (n c:Nat) (w:World):Calls Tryz.prog 6 #[.slice A n c] w fun e w'=>e= .returned (.bool (decide (n≤120)))∧w'=w:=by
 by_cases h:n≤120
 ·have i1:(n:Int)≤120:=by omega
  rw [decide_eq_true h]
  clear h
  go_enter Tryz.func6,Tryz.ntmps6
  go_wp2_with fail
  go_ret
  exact⟨rfl,rfl⟩
 ·have i1: ¬(n:Int)≤120:=by omega
  rw [decide_eq_false h]
  clear h
  go_enter Tryz.func6,Tryz.ntmps6
  go_wp2_with fail
  go_ret
  exact⟨rfl,rfl⟩
end Go.Proofs.YtiacbphnclgikaaGreatDoor
