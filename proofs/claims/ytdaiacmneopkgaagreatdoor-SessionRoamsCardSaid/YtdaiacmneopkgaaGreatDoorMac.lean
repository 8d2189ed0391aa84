/-
 What the card tells of the table of S-boxes; a list of calls among the arguments, by walks through their texts; what was there stays as it was.
-/
import Derived.Test.YtdaiacmneopkgaaGreatDoorMaa
import Derived.ChangeSame
import Derived.ChangeVars
import Derived.JoinedOf
import Derived.Carry
import Derived.LaidLaws
import Derived.LaidHandle
import Derived.Lib.LaidU8
import Derived.Lay
import Derived.Test.YtdaiacmneopkgaaGreatDoorMbb
namespace Go.Proofs.YtdaiacmneopkgaaGreatDoor
set_option linter.unusedSimpArgs false
set_option linter.unusedVariables false
set_option maxRecDepth 100000
section
open Go.ChangeShapes Go.WideShapes Go.RowKit
theorem own:ownKnob Tryz.prog.godebug=none:=by kernel_rfl
theorem laidOut:laidOutB Tryz.prog=true:=by kernel_rfl
def wy:List (String×DataW Unit):= [("mooring/sbox.boxes",Rows.laid_mooring_sbox_boxes)]
def Ef:List (String×DataW Unit):=wy.filter λx=>x.2.handleName?.isNone
theorem am8:Ef= [("mooring/sbox.boxes",Rows.laid_mooring_sbox_boxes)]:=rfl
theorem am9 {W:World} (h:laidMetH Tryz.prog wy W):laidMet Tryz.prog Ef W:=h
theorem TE {W:World} (h:laidMetH Tryz.prog wy W):eX W:=by
 obtain⟨g,t,cs,fuel,p,h1,h2,h3,h4⟩:=Lib.laidMet.reads (am9 h) (n:= "mooring/sbox.boxes") (d:=Rows.laid_mooring_sbox_boxes) (by rw [am8];exact .head _)
 have hg:Tryz.prog.globalNamed "mooring/sbox.boxes" =some 0:=by kernel_rfl
 obtain rfl:=Option.some.inj (hg.symm.trans h1);have ht:(Tryz.prog.globals[0]?).map (·.type)=some 33:=by kernel_rfl
 obtain rfl:=Option.some.inj (ht.symm.trans h2);have hd:(Rows.laid_mooring_sbox_boxes:DataW Unit)=Lib.tabData .u8 (QT.map fun(x:Nat)=>(x:Int)):=by kernel_rfl
 rw [hd]at h4;have hc:=Lib.cells_of_tab Tryz.underlying33 Tryz.underlying5 (by kernel_rfl) (by kernel_rfl) h4;intro j v hv;obtain⟨hj,rfl⟩:=xM hv;have:=World.var?_cell hg h3 j;rw [Nat.zero_add,this,<-Array.getElem?_toList,hc,List.map_map,List.getElem?_map,alH j hj];rfl
noncomputable def aeg (os:Os):World:=World.holding Tryz.prog os ⟨#[],#[],[]⟩
noncomputable def MJ (os:Os):World:=(aeg os).layVars Tryz.prog Ef
theorem ana (os:Os):laidMet Tryz.prog Ef (MJ os):=by
 have e1:(Ef.filter λx=>(Ef.map (·.1)).contains x.1)=Ef:=List.filter_eq_self.2 λx hx=>List.contains_iff_mem.2 (List.mem_map.2 ⟨x,hx,rfl⟩);have e2:(Ef.filter λx=> !(Ef.map (·.1)).contains x.1)= []:=List.filter_eq_nil_iff.2 λx hx=>by rw [List.contains_iff_mem.2 (List.mem_map.2 ⟨x,hx,rfl⟩)];simp
 exact laidMet_layVars (w0:=aeg os) (Ef.map (·.1)) [] (by rw [e1];rfl) (by rw [e1];kernel_rfl) (by rw [e1];kernel_rfl) (by rw [e2];exact LaidIn.none)
theorem TC (os:Os) (args:Array Value):laidMetH Tryz.prog wy ((MJ os).forCall (λ_ _=>0) ⟨#[],args,[]⟩).memory:=
 laidMetH_of_parts ((ana os).of_heap (by simp [World.memory,World.forCall,Input.heap])) (by kernel_rfl)
end
section
open Go.ChangeShapes Go.WideShapes Go.RowKit Go.Deep
section
variable {H:Type} {enc:TypeId×Value->H} {W:World} {base:Nat} {r:Reach} {v:Value} {d:DataW H} {p:List MemPlace}
theorem aoa (hv:Value.okWide Tryz.prog W r base 24 v) (h:DataW.Trod enc Tryz.prog W 0 (λ_=>true) true 24 v d p):
  ∃(A:Option Addr) (n c:Nat) (G:Nat->Hf),v= .slice A n c/\n<=c/\c<=maxLen/\TB W W.heap.size A n G:=by
 obtain⟨A0,n0,c0,rfl⟩:=okWide_slice Tryz.underlying24 hv;have hC:Tryz.prog.cellsOf 47=6:=by kernel_rfl
 have k1:Tryz.prog.cellsOf 3=1:=by kernel_rfl
 have k2:Tryz.prog.cellsOf 23=1:=by kernel_rfl
 have k3:Tryz.prog.cellsOf 9=1:=by kernel_rfl
 have k4:Tryz.prog.cellsOf 45=1:=by kernel_rfl
 have k5:Tryz.prog.cellsOf 4=1:=by kernel_rfl
 obtain⟨fuel,hf⟩:=h;rw [show(Value.slice A0 n0 c0).cells= #[.slice A0 n0 c0]from rfl]at hf;rcases Go.Deep.open_slice Tryz.underlying24 hf with ⟨h1,_⟩|⟨a,len,cap,m,k,D,Pl,h1,hb,hl,hm,hmm,_,hx⟩
 ·simp at h1;exact⟨none,0,0,λ_=>⟨0,none,0,0,[],⟨#[]⟩,0,0,false⟩,by simp [h1],Nat.le_refl _,Nat.zero_le _,λi hi=>absurd hi (by omega)⟩
 ·simp at h1;have hlm:len<=m:=by rw [hmm];split<;>omega
  have row: ∀i,i<len-> ∃C:Hf,Qo W W.heap.size C/\ ∀j,j<6->W.cell? ((a.add (i*6)).add j)=some (TA C j):=λi hi=>by
   obtain⟨cs,hcs,Li⟩:=hx i (by omega);rw [hC]at hcs;obtain⟨_,hcl,hcell⟩:=World.cells?_some hcs;obtain⟨xs,m2,_,_,_,hlen,hg⟩:=DataW.trod_struct Tryz.underlying47 Li
   match cs,hcl,xs,hlen with
   | [u0,u1,u2,u3,u4,u5],_,[y0,y1,y2,y3,y4,y5],_=>
    have h0:=hg 0 _ rfl;have h1:=hg 1 _ rfl;have h2:=hg 2 _ rfl;have h3:=hg 3 _ rfl;have h4:=hg 4 _ rfl;have h5:=hg 5 _ rfl;simp [k1,k2,k3,k4,k5]at h0 h1 h2 h3 h4 h5;obtain⟨z,e0,_,w0⟩:=DataW.trod_int Tryz.underlying3 h0;obtain⟨s,e2,_,w2⟩:=DataW.trod_string Tryz.underlying9 h2;obtain⟨t,e3,_,w3⟩:=DataW.trod_int Tryz.underlying23 h3;obtain⟨q,e4,_,w4⟩:=DataW.trod_int Tryz.underlying23 h4;obtain⟨b,e5,_⟩:=DataW.trod_bool Tryz.underlying4 h5;simp at e0 e2 e3 e4 e5;subst e0 e2 e3 e4 e5;have hT:0<=t/\t<=18446744073709551615:=(by simpa [Lit.wf,IntKind.min,IntKind.max,IntKind.signed,IntKind.bits]using w3);have hQ:0<=q/\q<=18446744073709551615:=(by simpa [Lit.wf,IntKind.min,IntKind.max,IntKind.signed,IntKind.bits]using w4);obtain⟨t,rfl⟩:=Int.eq_ofNat_of_zero_le hT.1;obtain⟨q,rfl⟩:=Int.eq_ofNat_of_zero_le hQ.1;obtain⟨A,n,c,l,hu,hS,hnc,hcm⟩: ∃(A:Option Addr) (n c:Nat) (l:List UInt8),u1= .slice A n c/\Sl W W.heap.size A n l/\n<=c/\c<=maxLen:=by
     rcases open_ints Tryz.underlying45 Tryz.underlying5 (by kernel_rfl) h1 with ⟨hcs,_⟩|⟨a,n,c,zs,hcs,_,hl,hm,hz,_,hcell,hwz⟩
     ·simp at hcs;exact⟨none,0,0,[],hcs,Sl.Wn,Nat.le_refl _,Nat.zero_le _⟩
     ·simp at hcs;obtain⟨l,hS,hlc,hcm⟩:=Sl.Mw (w:=W) (zs:=zs) (.inr ⟨a,rfl,hl,hm,by simpa using hz,hcell,hwz⟩);exact⟨some a,n,c,l,hcs,hS,hlc,hcm⟩
    subst hu;refine⟨⟨z,A,n,c,l,s,t,q,b⟩,⟨hS,hnc,hcm,w2,by show t<_;omega,by show q<_;omega⟩,λj hj=> ?_⟩;have h6:j=0\/j=1\/j=2\/j=3\/j=4\/j=5:=(by omega);rcases h6 with rfl|rfl|rfl|rfl|rfl|rfl
    ·simpa [TA]using hcell 0 (by omega)
    ·simpa [TA]using hcell 1 (by omega)
    ·simpa [TA]using hcell 2 (by omega)
    ·simpa [TA]using hcell 3 (by omega)
    ·simpa [TA]using hcell 4 (by omega)
    ·simpa [TA]using hcell 5 (by omega)
  let G:Nat->Hf:=λi=>if hi:i<len then(row i hi).choose else⟨0,none,0,0,[],⟨#[]⟩,0,0,false⟩
  have hG: ∀i (hi:i<len),Qo W W.heap.size (G i)/\ ∀j,j<6->W.cell? ((a.add (i*6)).add j)=some (TA (G i) j):=λi hi=>by
   have e:G i=(row i hi).choose:=dif_pos hi;rw [e];exact(row i hi).choose_spec
  refine⟨some a,len,cap,G,by simp [h1],hl,hm,λi hi=> ?_⟩;obtain⟨b,o,spot⟩:=a;obtain⟨hok,hk⟩:=hG i hi;have hspot:spot=none:=by simpa [Addr.add]using World.cell?_spot ((hG 0 (by omega)).2 0 (by omega))
  subst hspot;have hadd: ∀j,(((⟨b,o,none⟩:Addr).add (i*6)).add j)=⟨b,o+i*6+j,none⟩:=λj=>by rw [Addr.add_mid,Addr.add_mid]
  refine⟨b,o,rfl,?_,λj hj=>by rw [<-hadd];exact hk j hj,hok⟩;rcases Nat.lt_or_ge b W.heap.size with h3|h3
  ·exact h3
  ·have k0:=hk 0 (by omega);rw [hadd]at k0;simp [World.cell?,Array.getElem?_eq_none h3]at k0
end
end
end Go.Proofs.YtdaiacmneopkgaaGreatDoor
