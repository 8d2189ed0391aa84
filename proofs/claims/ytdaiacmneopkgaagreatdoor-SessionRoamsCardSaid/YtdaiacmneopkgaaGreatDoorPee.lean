/-
 Slices of strings in memory; what a statement's frame tells of one that came in. The check of the examples of layer 21; the laws' function that asks whether strings are few; a list with two strings more. What was there stays as it was.
-/
import Derived.Test.YtdaiacmneopkgaaGreatDoorMla
import Derived.Lib.MinMax
namespace Go.Proofs.YtdaiacmneopkgaaGreatDoor
set_option linter.unusedSimpArgs false
set_option linter.unusedVariables false
set_option maxRecDepth 100000
open Go.RowKit Go.MapKept
def Lh (n:Nat) (F:Nat->ByteArray):List Value:=(List.range n).map λj=> .string (F j)
theorem agS (n:Nat) (F:Nat->ByteArray):(Lh n F).length=n:=by simp [Lh]
theorem aa0 (n:Nat) (F:Nat->ByteArray) (j:Nat) (h:j<n):(Lh n F)[j]?=some (.string (F j)):=by
 simp [Lh,List.getElem?_map,List.getElem?_range h]
def Aa (w:World) (B:Nat) (A:Option Addr) (n:Nat) (F:Nat->ByteArray):Prop:=
 ∀j,j<n-> ∃g o,A=some ⟨g,o,none⟩/\g<B/\w.cell? ⟨g,o+j,none⟩=some (.string (F j))
section
variable {w w':World} {B n b c:Nat} {A:Option Addr} {F:Nat->ByteArray} {e:TypeId}
theorem Aa.keep (h:Aa w B A n F) (hb:Below B w w'):Aa w' B A n F:=λj hj=>by
 obtain⟨g,o,e,hg,hc⟩:=h j hj;exact⟨g,o,e,hg,(hb.cell (p:=⟨g,o+j,none⟩) hg).trans hc⟩
theorem Aa.more (h:Aa w B A n F) {B':Nat} (hB:B<=B'):Aa w B' A n F:=λj hj=>by
 obtain⟨g,o,e,hg,hc⟩:=h j hj;exact⟨g,o,e,Nat.lt_of_lt_of_le hg hB,hc⟩
theorem Aa.src (h:Aa w B A n F) (hn:0<n): ∃g o,A=some ⟨g,o,none⟩/\ ∀j u,(Lh n F)[j]?=some u->w.cell? ((⟨g,o,none⟩:Addr).add j)=some u:=by
 obtain⟨g,o,rfl,hg,_⟩:=h 0 hn;refine⟨g,o,rfl,λj u hu=> ?_⟩;have hj:j<n:=by
  have:=(List.getElem?_eq_some_iff.1 hu).1;rw [agS]at this;exact this
 obtain⟨g2,o2,e2,_,hc⟩:=h j hj;injection e2 with e2;injection e2 with e3 e4;subst e3 e4;rw [aa0 n F j hj]at hu;rw [Addr.add_mid,hc,<-hu]
theorem Aa.jk (h:w.ownsRow b e 1 (.slice A n c) n (Lh n F)):Aa w w.heap.size A n F:=λj hj=>by
 obtain⟨g,cap,hv,hg,hlt⟩:=World.ownsRow.form h (by omega);injection hv with e1 e2 e3;subst e1;refine⟨g,0,rfl,hlt,?_⟩;have hc:=World.ownsRow.cells h (g:=g) rfl j _ (aa0 n F j hj);have:(⟨g,0,none⟩:Addr).add j=⟨g,0+j,none⟩:=by unfold Addr.add;split<;>simp_all
 rw [this]at hc;exact hc
theorem open_strings {H:Type} {enc:TypeId×Value->H} {P:Program} {W:World} {B:Nat} {sp:Nat->Bool} {held:Bool} {ty e:TypeId} {v:Value} {d:DataW H} {p:List MemPlace}
  (ht:P.underlying ty=some (.slice e)) (he:P.underlying e=some .string) (hc:P.cellsOf e=1) (hv:v.cells= #[v]) (h:DataW.Trod enc P W B sp held ty v d p):
  ∃(A:Option Addr) (n c:Nat) (F:Nat->ByteArray),v= .slice A n c/\n<=c/\c<=maxLen/\(∀i,(F i).size<=maxLen)/\Aa W W.heap.size A n F/\(d= .nil/\n=0\/ ∃l1 l2,d= .slice l1 l2/\l1.length=n):=by
 obtain⟨fuel,hf⟩:=h;rw [hv]at hf;rcases Go.Deep.open_slice ht hf with ⟨h1,hd⟩|⟨a,len,cap,m,k,D,Pl,h1,hb,hl,hm,hmm,hfu,hx⟩
 ·simp at h1;exact⟨none,0,0,λ_=>⟨#[]⟩,h1,Nat.le_refl _,Nat.zero_le _,λ_=>Nat.zero_le _,λi hi=>absurd hi (by omega),.inl ⟨by simp at hd;exact hd.1,rfl⟩⟩
 ·simp at h1;have hlm:len<=m:=by rw [hmm];split<;>omega
  have row: ∀i,i<len-> ∃x:ByteArray,x.size<=maxLen/\W.cell? ((a.add (i*1)).add 0)=some (.string x):=λi hi=>by
   obtain⟨cs,hcs,Li⟩:=hx i (by omega);rw [hc]at hcs;obtain⟨_,hcl,hcell⟩:=World.cells?_some hcs;obtain⟨s,es,_,hs⟩:=DataW.trod_string he Li;subst es;exact⟨s,hs,by simpa using hcell 0 (by omega)⟩
  let G:Nat->ByteArray:=λi=>if hi:i<len then(row i hi).choose else⟨#[]⟩
  have hG: ∀i (hi:i<len),(G i).size<=maxLen/\W.cell? ((a.add (i*1)).add 0)=some (.string (G i)):=λi hi=>by
   have e:G i=(row i hi).choose:=dif_pos hi;rw [e];exact(row i hi).choose_spec
  have hN: ∀i,¬i<len->G i=⟨#[]⟩:=λi hi=>dif_neg hi;refine⟨some a,len,cap,G,h1,hl,hm,λi=> ?_,λi hi=> ?_,?_⟩
  ·by_cases h:i<len
   ·exact(hG i h).1
   ·rw [hN i h];exact Nat.zero_le _
  ·obtain⟨b,o,spot⟩:=a;obtain⟨_,k0⟩:=hG i hi;have hspot:spot=none:=(by simpa [Addr.add]using World.cell?_spot (hG 0 (by omega)).2);subst hspot;have hadd:(((⟨b,o,none⟩:Addr).add (i*1)).add 0)=⟨b,o+i,none⟩:=(by rw [Addr.add_mid,Addr.add_mid,Nat.mul_one,Nat.add_zero]);rw [hadd]at k0;refine⟨b,o,rfl,?_,k0⟩;rcases Nat.lt_or_ge b W.heap.size with h3|h3
   ·exact h3
   ·simp [World.cell?,Array.getElem?_eq_none h3]at k0
  ·injection hfu with XV _;exact .inr ⟨_,_,XV,by simp⟩
end
end Go.Proofs.YtdaiacmneopkgaaGreatDoor
