/-
 Contracts of layer 12 at the very arguments that its laws have.
-/
import Derived.Test.YtiacbphnclgikaaGreatDoorSec
import Derived.Test.YtiacbphnclgikaaGreatDoorGbt
import Derived.Test.YtiacbphnclgikaaGreatDoorOfw
namespace Go.Proofs.YtiacbphnclgikaaGreatDoor
open Go.RowKit
set_option linter.unusedVariables false
set_option maxRecDepth 100000
set_option linter.unusedSimpArgs false
def TabS (w:World) (p:Option Addr) (f:Nat→Nat):Prop:=TabC w (.pointer p) f∧TabM w p f∧ ∃a,p=some a
theorem TabS.to {w w':World} {p:Option Addr} {f:Nat→Nat} (h:TabS w p f) (hb:Below w.heap.size w w'):TabS w' p f:=⟨h.1.to hb,h.2.1.to hb,h.2.2⟩
theorem wtabs (gT gC:Nat) (f s:Nat→Nat) (w:World) (hs:enF f zF=s) (hT:Ti w gT (some ⟨gC,0,none⟩) s) (hC:Ci w gC f):TabS w (some ⟨gT,0,none⟩) f:=⟨wtab gT gC f s w hs hT hC,wtabm gT gC f s w hs hT hC,_,rfl⟩
theorem sl_nil (w:World) (B:Nat):Sl w B none 0 []:=⟨rfl,fun h=>absurd h (by omega)⟩
theorem lst_len {l:List UInt8} (h:l.length=0):l= []:=List.eq_nil_of_length_eq_zero h
theorem ctL_len (f s a:Nat→Nat) (l:List UInt8):(ctL f s a l).length=l.length:=liB_len _ _
theorem seL_len (f s a:Nat→Nat) (l:List UInt8) (t:Nat→Nat):(seL f s a l t).length=l.length+16:=by unfold seL;rw [List.length_append,ctL_len,liB_len]
theorem seL_take (f s a:Nat→Nat) (l:List UInt8) (t:Nat→Nat) {n:Nat} (h:l.length=n):(seL f s a l t).take n=ctL f s a l:=by
 unfold seL
 rw [←h,←ctL_len f s a l,List.take_left]
theorem seL_drop (f s a:Nat→Nat) (l:List UInt8) (t:Nat→Nat) {n:Nat} (h:l.length=n):(seL f s a l t).drop n=liB 16 t:=by
 unfold seL
 rw [←h,←ctL_len f s a l,List.drop_left]
theorem sl_arr {w:World} {g:Nat} {t:Nat→Nat} (h:Ar w g 16 t) (ht:B16 t):Sl w w.heap.size (some ⟨g,0,none⟩) 16 (liB 16 t):=
 Sl.of_fun (o:=0) (fun j hj=>ht j hj) (fun j hj=>by rw [Nat.zero_add];exact(h j hj).1) (h.lt (by omega))
def Sy (W:World) (g:Nat) (A:Option Addr) (n:Nat) (l:List UInt8):Prop:=g<W.heap.size∧Sl W (g+1) A n l
section
variable {W W':World} {g b n:Nat} {A:Option Addr} {l:List UInt8}
theorem Sy.lt (h:Sy W g A n l):g<W.heap.size:=h.1
theorem Sy.to (h:Sy W g A n l) (hb:Below W.heap.size W W'):Sy W' g A n l:=⟨Nat.lt_of_lt_of_le h.1 hb.size,h.2.below (hb.mono h.1)⟩
theorem Sy.keep (h:Sy W g A n l) (hl:g<b) (hb:Below b W W'):Sy W' g A n l:=⟨Nat.lt_of_lt_of_le h.1 hb.size,h.2.below (hb.mono hl)⟩
theorem Sy.drew (h:Sy W g A n l):Sy W.drew g A n l:=h
theorem Sy.sl (h:Sy W g A n l):Sl W W.heap.size A n l:=h.2.more h.1
theorem Sy.new (h:Sl W W.heap.size A n l) (hp:0<W.heap.size):Sy W (W.heap.size-1) A n l:=⟨by omega,h.more (by omega)⟩
end
theorem slice_to2 (A:Option Addr) (n c o:Nat) (ho:o≤n) (hnc:n≤c) (W:World):(Instr.sliceAt 25 (.slice A n c) none (some (.int .i64 (o:Int))) none).run Tryz.prog W= .ok (.slice A o c) W:=by
 have hel:Tryz.prog.elem 25=5:=by simp [Program.elem]
 have hs:(sizeOf 5).run Tryz.prog W= .ok 1 W:=by kernel_rfl
 have hu:Tryz.prog.underlying 25=some (.slice (Tryz.prog.elem 25)):=by rw [hel];exact Tryz.sl8
 rw [run_sliceAt_slice (P:=Tryz.prog) W 25 _ _ _ _ hu]
 have h1:=run_slice_any (P:=Tryz.prog) W 25 A n c hu none (some (.int .i64 (o:Int))) none
 rw [h1,hel]
 have h2:o≤c:=by omega
 cases A with
 |none=>simp [Instr.sliceBounds,run_sliceBound,sliced,h2,hs]
 |some a=>
  simp [Instr.sliceBounds,run_sliceBound,sliced,h2,hs]
  intro _
  cases a
  simp [Addr.add]
theorem sl_take2 {w:World} {B n o:Nat} {A:Option Addr} {l:List UInt8} (h:Sl w B A n l) (ho:o≤n):Sl w B A o (l.take o):=by
 have hl:=h.len
 refine⟨by rw [List.length_take];omega,fun h0=> ?_⟩
 obtain⟨b,off,e,hb,hc⟩:=h.2 (by omega)
 refine⟨b,off,e,hb,fun j u hj=>hc j u ?_⟩
 rw [List.getElem?_take]at hj
 split at hj
 ·exact hj
 ·cases hj
theorem run_fieldO (v:Value) (c o:Nat→Nat) (w:World):(Instr.field 109 (.agg (rsL v c o).toArray) 2).run Tryz.prog w= .ok (.agg (arL 16 o).toArray) w:=by kernel_rfl
theorem own_capS {w:World} {b n c:Nat} {A:Option Addr} {l:List UInt8} (h:w.ownsRow b 5 1 (.slice A n c) n (l.map b8)):n≤c:=by
 rcases h.2 with ⟨h1,rfl⟩|⟨g,cap,cur,h1,_,_,h2,_⟩
 ·exact Nat.zero_le _
 ·injection h1 with _ _ h3
  rw [h3];exact h2
theorem liB_take (n o:Nat) (F:Nat→Nat) (h:o≤n):(liB n F).take o=liB o F:=by
 unfold liB
 rw [←List.map_take,List.take_range,Nat.min_eq_left h]
theorem seL_pre {f s a t:Nat→Nat} {l:List UInt8} {n N o:Nat} (hl:l.length=n) (hN:n/16=N) (ho:16*N=o):(seL f s a l t).take o=ctL f s a (l.take o):=by
 subst hl;subst hN;subst ho
 have ht:(l.take (16*(l.length/16))).length=16*(l.length/16):=by rw [List.length_take];omega
 unfold seL
 rw [List.take_append_of_le_length (by rw [ctL_len];omega)]
 unfold ctL
 rw [ht,show 16*(l.length/16)/16=l.length/16 by omega,liB_take _ _ _ (by omega)]
 refine liB_ext (fun j hj=> ?_)
 unfold ctF
 rw [if_pos hj,if_pos hj]
 unfold cpF
 refine adF_congr (enR_congr f (adF_congr (fun i hi=> ?_) (fun _ _=>rfl)) 10) (fun _ _=>rfl) _ (Nat.mod_lt _ (by decide))
 unfold pt lF
 rw [List.getD,List.getD,List.getElem?_take,if_pos (by omega)]
theorem built_res2 (c o:Nat→Nat):Tryz.prog.built 109 [(1,.agg (arL 16 c).toArray),(2,.agg (arL 16 o).toArray)]=some (rsL (.slice none 0 0) c o).toArray:=by kernel_rfl
theorem run_res2 (c o:Nat→Nat) (w:World):(Instr.build 109 #[(1,.agg (arL 16 c).toArray),(2,.agg (arL 16 o).toArray)]).run Tryz.prog w= .ok (.agg (rsL (.slice none 0 0) c o).toArray) w:=run_build w _ _ _ (built_res2 c o)
theorem same_true (A A':Option Addr) (n c c':Nat) (l:List UInt8) (w:World) (h:Sl w w.heap.size A n l) (h':Sl w w.heap.size A' n l) (hn:n≤1000200):
  Calls Tryz.prog 13 #[.slice A n c,.slice A' n c'] w fun e w'=>e= .returned (.bool true)∧Below w.heap.size w w':=by
 refine(same A A' n n c c' l l w h h' (by omega) (by omega)).mono ?_
 rintro e w' ⟨rfl,hd⟩
 exact⟨by simp,hd.below _⟩
end Go.Proofs.YtiacbphnclgikaaGreatDoor
