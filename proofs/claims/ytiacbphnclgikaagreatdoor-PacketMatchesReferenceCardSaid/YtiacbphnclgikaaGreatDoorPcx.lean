/-
 The frame of the laws of layer 17: a packet among the arguments. No condition.
-/
import Derived.Test.YtiacbphnclgikaaGreatDoorSbl
import Derived.Deep.Fields
namespace Go.Proofs.YtiacbphnclgikaaGreatDoor
open Go.ChangeShapes Go.WideShapes Go.RowKit Go.Deep
set_option linter.unusedVariables false
set_option maxRecDepth 100000
section
variable {H:Type} {enc:TypeId×Value→H} {W:World} {base:Nat} {r:Reach} {v:Value} {d:DataW H} {p:List MemPlace}
theorem open_packet (hv:Value.okWide Tryz.prog W r base 27 v) (h:DataW.Trod enc Tryz.prog W 0 (fun _=>true) true 27 v d p):
  ∃(D:Int) (x t e:Nat) (A:Option Addr) (n c:Nat) (l:List UInt8),v= .agg #[.int .i64 D,.int .u64 (x:Int),.int .u16 (t:Int),.int .u16 (e:Int),.slice A n c]∧(-9223372036854775808≤D∧D≤9223372036854775807)∧x<18446744073709551616∧t<65536∧e<65536∧Sl W W.heap.size A n l∧n≤c∧c≤maxLen:=by
 obtain⟨cs,rfl,hsz⟩:=okWide_struct Tryz.underlying27 hv
 have hC:Tryz.prog.cellsOf 27=5:=by kernel_rfl
 obtain⟨fuel,hf⟩:=h
 obtain⟨xs,m,rfl,hx,_,hlen,hg⟩:=DataW.trod_struct Tryz.underlying27 hf
 have k1:Tryz.prog.cellsOf 3=1:=by kernel_rfl
 have k2:Tryz.prog.cellsOf 23=1:=by kernel_rfl
 have k3:Tryz.prog.cellsOf 24=1:=by kernel_rfl
 have k4:Tryz.prog.cellsOf 25=1:=by kernel_rfl
 obtain⟨L⟩:=cs
 match L,hsz.trans hC with
 | [u0,u1,u2,u3,u4],_=>
  match xs,hlen with
  | [y0,y1,y2,y3,y4],_=>
   have h0:=hg 0 _ rfl
   have h1:=hg 1 _ rfl
   have h2:=hg 2 _ rfl
   have h3:=hg 3 _ rfl
   have h4:=hg 4 _ rfl
   simp [Value.cells,k1,k2,k3,k4]at h0 h1 h2 h3 h4
   obtain⟨D,e0,_,w0⟩:=DataW.trod_int Tryz.underlying3 h0
   obtain⟨x,e1,_,w1⟩:=DataW.trod_int Tryz.underlying23 h1
   obtain⟨t,e2,_,w2⟩:=DataW.trod_int Tryz.underlying24 h2
   obtain⟨e,e3,_,w3⟩:=DataW.trod_int Tryz.underlying24 h3
   simp at e0 e1 e2 e3
   subst e0 e1 e2 e3
   have hD: -9223372036854775808≤D∧D≤9223372036854775807:=by simpa [Lit.wf,IntKind.min,IntKind.max,IntKind.signed,IntKind.bits]using w0
   have hX:0≤x∧x≤18446744073709551615:=by simpa [Lit.wf,IntKind.min,IntKind.max,IntKind.signed,IntKind.bits]using w1
   have hT:0≤t∧t≤65535:=by simpa [Lit.wf,IntKind.min,IntKind.max,IntKind.signed,IntKind.bits]using w2
   have hE:0≤e∧e≤65535:=by simpa [Lit.wf,IntKind.min,IntKind.max,IntKind.signed,IntKind.bits]using w3
   obtain⟨x,rfl⟩:=Int.eq_ofNat_of_zero_le hX.1
   obtain⟨t,rfl⟩:=Int.eq_ofNat_of_zero_le hT.1
   obtain⟨e,rfl⟩:=Int.eq_ofNat_of_zero_le hE.1
   rcases open_ints Tryz.underlying25 Tryz.underlying5 (by kernel_rfl) h4 with ⟨hcs,_⟩|⟨a,n,c,zs,hcs,_,hl,hm,hz,_,hcell,hwz⟩
   ·simp at hcs
    subst hcs
    exact⟨D,x,t,e,none,0,0,[],rfl,hD,by omega,by omega,by omega,Sl.nil_,Nat.le_refl _,Nat.zero_le _⟩
   ·simp at hcs
    subst hcs
    obtain⟨l,hS,hlc,hcm⟩:=Sl.of_row (w:=W) (zs:=zs) (.inr ⟨a,rfl,hl,hm,by simpa using hz,hcell,hwz⟩)
    exact⟨D,x,t,e,some a,n,c,l,rfl,hD,by omega,by omega,by omega,hS,hlc,hcm⟩
end
end Go.Proofs.YtiacbphnclgikaaGreatDoor
