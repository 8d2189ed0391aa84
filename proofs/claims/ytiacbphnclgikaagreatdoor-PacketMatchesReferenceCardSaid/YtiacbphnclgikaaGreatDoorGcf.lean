/-
 Contracts of package cipher, by walks through their texts, one after the other; what was there stays as it was.
-/
import Derived.Test.YtiacbphnclgikaaGreatDoorGcr
import Derived.Test.YtiacbphnclgikaaGreatDoorGsb
import Derived.Test.YtiacbphnclgikaaGreatDoorGfi
import Derived.Deep.RegionHeld3
import Derived.BigRegion
import Derived.Shelf.Abstract
import Derived.Test.YtiacbphnclgikaaGreatDoorGke
import Derived.Test.YtiacbphnclgikaaGreatDoorFre
namespace Go.Proofs.YtiacbphnclgikaaGreatDoor
section
open Go.RowKit
set_option linter.unusedVariables false
set_option maxRecDepth 100000
end
section
open Go.RowKit
set_option linter.unusedVariables false
set_option maxRecDepth 100000
end
section
open Go.RowKit
set_option linter.unusedVariables false
set_option maxRecDepth 10000
theorem held2 {a b:Addr} {x y:Value} {W1 W W':World} (k:W.cell? a=some x∧W.cell? b=some y∧Base W1 W) (ha:a.block<W.heap.size) (hb:b.block<W.heap.size) (hl:Below W.heap.size W W'):
  W'.cell? a=some x∧W'.cell? b=some y∧Base W1 W':=⟨(hl.cell ha).trans k.1,(hl.cell hb).trans k.2.1,Base.step k.2.2 hl⟩
end
section
open Go.RowKit
set_option linter.unusedVariables false
set_option maxRecDepth 100000
theorem colt (n t q:Nat) (hn:n<16) (hq:q=n%4) (ht:t=n/4*4):
  (((n:Int)).tmod 4=(q:Int)∧(n:Int)%4=(q:Int))∧(wrap64 ((n:Int)-(q:Int))=(t:Int)∧IntKind.i64.wrap ((n:Int)-(q:Int))=(t:Int))∧(n:Int)-(q:Int)=(t:Int):=by
 refine⟨⟨?_,by omega⟩,⟨?_,?_⟩,by omega⟩
 ·rw [Int.tmod_eq_emod_of_nonneg (by omega)];omega
 ·rw [IntWalk.wrap64_in _ (by omega)];omega
 ·rw [wraps_i64' _ (by omega) (by omega)];omega
theorem colf (n t kn:Nat) (k:Int) (q:Nat) (hk:k=(kn:Int)) (hn:n<16) (hkn:kn<4) (ht:t=n/4*4) (hq:q=(n+kn)%4):
  (IntKind.i64.wrap ((n:Int)+k)=(n:Int)+k∧wrap64 ((n:Int)+k)=(n:Int)+k)∧(((n:Int)+k).tmod 4=(q:Int)∧((n:Int)+k)%4=(q:Int))∧
  (IntKind.i64.wrap ((t:Int)+(q:Int))=(t:Int)+(q:Int)∧wrap64 ((t:Int)+(q:Int))=(t:Int)+(q:Int))∧(t:Int)+(q:Int)<16:=by
 subst hk
 refine⟨⟨wraps_i64' _ (by omega) (by omega),IntWalk.wrap64_in _ (by omega)⟩,⟨?_,by omega⟩,⟨wraps_i64' _ (by omega) (by omega),IntWalk.wrap64_in _ (by omega)⟩,by omega⟩
 rw [Int.tmod_eq_emod_of_nonneg (by omega)];omega
end
section
open Go.RowKit
set_option linter.unusedVariables false
set_option maxRecDepth 100000
end
section
open Go.RowKit
set_option linter.unusedVariables false
set_option maxRecDepth 100000
end
section
open Go.RowKit
set_option linter.unusedVariables false
set_option maxRecDepth 100000
end
end Go.Proofs.YtiacbphnclgikaaGreatDoor
