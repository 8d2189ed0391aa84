/-
 The frame of the laws over the table of S-boxes: what the listed package-level variable gives a walk; a world that meets that condition. No condition.
-/
import Derived.Test.YtiacbphnclgikaaGreatDoorGsb
import Derived.ChangeSame
import Derived.ChangeVars
import Derived.JoinedOf
import Derived.OpenShut
import Derived.Carry
import Derived.LaidLaws
import Derived.LaidHandle
import Derived.Lib.LaidU8
import Derived.Lay
namespace Go.Proofs.YtiacbphnclgikaaGreatDoor
open Go.ChangeShapes Go.WideShapes Go.RowKit
set_option linter.unusedVariables false
set_option maxRecDepth 100000
theorem own:ownKnob Tryz.prog.godebug=none:=by kernel_rfl
theorem laidOut:laidOutB Tryz.prog=true:=by kernel_rfl
def laidL:List (String×DataW Unit):= [("mooring/sbox.boxes",Rows.laid_mooring_sbox_boxes)]
def laidD:List (String×DataW Unit):=laidL.filter fun x=>x.2.handleName?.isNone
theorem laidD_eq:laidD= [("mooring/sbox.boxes",Rows.laid_mooring_sbox_boxes)]:=rfl
theorem laid_data {W:World} (h:laidMetH Tryz.prog laidL W):laidMet Tryz.prog laidD W:=h
theorem boxes_of {W:World} (h:laidMetH Tryz.prog laidL W):Boxes W:=by
 obtain⟨g,t,cs,fuel,p,h1,h2,h3,h4⟩:=Lib.laidMet.reads (laid_data h) (n:= "mooring/sbox.boxes") (d:=Rows.laid_mooring_sbox_boxes) (by rw [laidD_eq];exact .head _)
 have hg:Tryz.prog.globalNamed "mooring/sbox.boxes" =some 0:=by kernel_rfl
 obtain rfl:=Option.some.inj (hg.symm.trans h1)
 have ht:(Tryz.prog.globals[0]?).map (·.type)=some 46:=by kernel_rfl
 obtain rfl:=Option.some.inj (ht.symm.trans h2)
 have hd:(Rows.laid_mooring_sbox_boxes:DataW Unit)=Lib.tabData .u8 (boxL.map fun(x:Nat)=>(x:Int)):=by kernel_rfl
 rw [hd]at h4
 have hc:=Lib.cells_of_tab Tryz.underlying46 Tryz.underlying5 (by kernel_rfl) (by kernel_rfl) h4
 intro j v hv
 obtain⟨hj,rfl⟩:=arL_get_some hv
 have:=World.var?_cell hg h3 j
 rw [Nat.zero_add,this,←Array.getElem?_toList,hc,List.map_map,List.getElem?_map,boxL_get j hj]
 rfl
noncomputable def laidBase (os:Os):World:=World.holding Tryz.prog os ⟨#[],#[],[]⟩
noncomputable def laidWorld (os:Os):World:=(laidBase os).layVars Tryz.prog laidD
theorem laidWorld_data (os:Os):laidMet Tryz.prog laidD (laidWorld os):=by
 have e1:(laidD.filter fun x=>(laidD.map (·.1)).contains x.1)=laidD:=List.filter_eq_self.2 fun x hx=>List.contains_iff_mem.2 (List.mem_map.2 ⟨x,hx,rfl⟩)
 have e2:(laidD.filter fun x=> !(laidD.map (·.1)).contains x.1)= []:=List.filter_eq_nil_iff.2 fun x hx=>by rw [List.contains_iff_mem.2 (List.mem_map.2 ⟨x,hx,rfl⟩)];simp
 exact laidMet_layVars (w0:=laidBase os) (laidD.map (·.1)) [] (by rw [e1];rfl) (by rw [e1];kernel_rfl) (by rw [e1];kernel_rfl) (by rw [e2];exact LaidIn.none)
theorem laidWorld_met (os:Os) (args:Array Value):laidMetH Tryz.prog laidL ((laidWorld os).forCall (fun _ _=>0) ⟨#[],args,[]⟩).memory:=
 laidMetH_of_parts ((laidWorld_data os).of_heap (by simp [World.memory,World.forCall,Input.heap])) (by kernel_rfl)
end Go.Proofs.YtiacbphnclgikaaGreatDoor
