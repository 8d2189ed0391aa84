/-
 Zero bytes appended to a slice of the call's own, whether there is room or not; slices of bytes beside a store elsewhere.
-/
import Derived.Test.YtiacbphnclgikaaDoorPcb
import Derived.Lib.AppendZerosOnto
namespace Go.Proofs.YtiacbphnclgikaaDoor
open Go.RowKit
set_option linter.unusedVariables false
set_option maxRecDepth 100000
theorem sl_far {w:World} {B b o n:Nat} {l:List UInt8} (h:Sl w B (some ⟨b,o,none⟩) n l) {p:Addr} (hp:p.block≠b) (v:Value):Sl (w.setCell p v) B (some ⟨b,o,none⟩) n l:=
 ⟨h.1,fun hn=>by
  obtain⟨b',o',e,hb,hc⟩:=h.2 hn
  refine⟨b',o',e,hb,fun j u hj=> ?_⟩
  injection e with e
  injection e with e1 e2
  subst e1
  rw [World.cell?_setCell_other _ _ _ _ (fun e9=>hp (by rw [e9]))]
  exact hc j u hj⟩
theorem sy_of {w:World} {B g o n:Nat} {l:List UInt8} (h:Sl w B (some ⟨g,o,none⟩) n l) (hg:g<w.heap.size):Sy w g (some ⟨g,o,none⟩) n l:=
 ⟨hg,h.1,fun hn=>by
  obtain⟨b',o',e,hb,hc⟩:=h.2 hn
  injection e with e
  injection e with e1 e2
  subst e1;subst e2
  exact⟨g,o,rfl,Nat.lt_succ_self _,hc⟩⟩
theorem zero_cells (k:Nat):Builtin.zeroCells (Value.int .u8 0).cells k=((List.replicate k (0:UInt8)).map b8).toArray:=by
 apply Array.toList_inj.1
 unfold Builtin.zeroCells
 rw [Array.toList_map,Array.toList_range,List.map_replicate]
 show(List.range (k*1)).map (fun i=>(#[Value.int .u8 0])[i%1]!)=List.replicate k (b8 0)
 rw [Nat.mul_one]
 apply List.ext_getElem
 ·simp
 ·intro j h1 h2
  simp [Nat.mod_one]
  rfl
theorem app_zeros (w:World) (b:Nat) (A:Option Addr) (n c k:Nat) (l:List UInt8) (hO:Ow8 w b (.slice A n c) n l) (hn:0<n) (hk:0<k) (hb:b≤w.heap.size) (hnk:n+k≤1000000):
  ∃(A2:Option Addr) (c2:Nat) (W:World),(∀ty,(Builtin.append_ #[22,3] ty #[.slice A n c,.int .i64 (k:Int)]).run Tryd.prog w= .ok (.slice A2 (n+k) c2) W)∧Ow8 W b (.slice A2 (n+k) c2) (n+k) (l++List.replicate k 0)∧Below b w W:=by
 obtain⟨i0,hi0,hz0,hz1,hz2⟩:=info_parts info8x
 have ht:=Tryd.underlying22
 have htn:=Tryd.underlying3
 have hlen:(l.map b8).length=n*1:=hO.1
 rcases hO.2 with ⟨_,h2⟩|⟨g,cap,cur,hv,hbg,hg,hnc,hcm,hcs,htake⟩
 ·omega
 injection hv with e1 _ e3
 subst e1;subst e3
 have hzl:((List.replicate k (0:UInt8)).map b8).length=k:=by rw [List.length_map,List.length_replicate]
 have hll:((l++List.replicate k 0).map b8).length=(n+k)*1:=by rw [List.length_map,List.length_append,List.length_replicate];rw [List.length_map]at hlen;omega
 by_cases hroom:n+k≤c
 ·have hst:=run_storeCells_at Tryd.prog g (n*1) 5 ((List.replicate k (0:UInt8)).map b8) 0 cur w hg (by rw [hzl,hcs];omega) (one_b8 _)
  have hw:IntKind.i64.wrap (k:Int)=k:=by rw [IntKind.wrap_i64];omega
  have hneg: ¬((k:Int)<0):=by omega
  have h48i: ¬(281474976710656<(k:Int)):=by omega
  have hk0: ¬k=0:=by omega
  have hst2:=hst
  simp at hst2
  refine⟨some ⟨g,0,none⟩,c,w.setRow g (cur.toList.take (n*1)++(List.replicate k (0:UInt8)).map b8++cur.toList.drop (n*1+((List.replicate k (0:UInt8)).map b8).length)).toArray,fun ty=> ?_,⟨hll,.inr ⟨g,c,_,rfl,hbg,setRow_heap w g cur _ 5 _ hg,hroom,hcm,?_,?_⟩⟩,⟨rfl,rfl,rfl,by simp,fun j hj=>setRow_other w g j _ (by omega)⟩⟩
  ·simp [Builtin.append_,run_underlying ht,run_underlying htn,sizeOf,typeInfo,zeroValue,hi0,hz0,hz1,hz2,asInt,asIntOf,hw,hneg,h48i,hk0,hroom,zero_cells,Addr.add_lit,hst2]
  ·simp only [List.size_toArray,List.length_append,List.length_take,List.length_drop,Array.length_toList,hzl]
   omega
  ·rw [htake,List.map_append]
   exact List.take_left' (by rw [List.length_append,hlen,hzl];omega)
 ·have hold:(Builtin.firstCells i0.size n (.slice (some ⟨g,0,none⟩) n c)).run Tryd.prog w.drew= .ok (l.map b8).toArray w.drew:=run_firstCells_some (P:=Tryd.prog) w.drew i0.size n ⟨g,0,none⟩ n c (l.map b8) (by rw [hz1];exact hlen) (fun j u hj=>hO.cells (g:=g) rfl j u hj)
  have hr:=fun ty=>Lib.run_append_grow_zeros (P:=Tryd.prog) w 22 3 ty 5 i0 (.int .u8 0) .i64 .i64 ht htn hi0 hz0 (some ⟨g,0,none⟩) n c (l.map b8) hold k hk (by rw [hz1];decide) (by omega) (by omega) (by rw [hz2];omega) (growslice_fits (by omega) (by rw [hz2];omega))
  have hge:=grownCap_ge w (n+k) c 5
  have hle:=grownCap_le_maxLen w (n+k) c 5 (by unfold maxLen;omega)
  refine⟨_,_,_,hr,⟨hll,.inr ⟨w.heap.size,_,_,rfl,hb,heap_alloc_new w.drew _,hge,hle,?_,?_⟩⟩,((Below.refl _ _).drew).alloc hb _⟩
  ·simp only [Array.size_append,List.size_toArray,size_zeroCells,hlen,show(Value.int .u8 0).cells.size=1 from rfl]
   omega
  ·simp only [Array.toList_append,zero_cells,List.append_assoc]
   rw [←List.append_assoc,List.map_append]
   exact List.take_left' (by rw [List.length_append,hlen,hzl];omega)
end Go.Proofs.YtiacbphnclgikaaDoor
