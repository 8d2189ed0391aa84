/-
 Name-free lemmas, one after the other: numbers, bytes, slices and arrays in memory, the field, the S-box, round keys and the steps of AES as functions. No condition; nothing of the program is named here.
-/
import Derived.Test.YtdaiacmneopkgaaGreatDoorSqz
import Derived.ProofKit
import Derived.OwnWalk
import Derived.Laws.OwnMore
import Derived.Deep.AppendLies
import Derived.Deep.Draws
import Derived.Maps.AppendAt
import Derived.Lib.Hide
import Derived.IntWalk
import Derived.Laws.BitsLemmas
import Derived.Laws.Bits64
import Derived.Test.YtdaiacmneopkgaaGreatDoorRows
import Derived.WalkSpells
import Derived.Deep.QuietTactic
import Derived.BigQuiet
import Derived.RegionTactic
import Derived.WalkMore
import Derived.Deep.WholeRow
import Derived.Laws.IdiomCopy
import Derived.OpenShut
import Derived.ChangeOld
namespace Go.Proofs.YtdaiacmneopkgaaGreatDoor
set_option linter.unusedVariables false
set_option maxRecDepth 100000
section
open Go.RowKit
def b8 (b:UInt8):Value:= .int .u8 (b.toNat:Int)
theorem Bz (x:Nat) (h:x<256):b8 (UInt8.ofNat x)= .int .u8 (x:Int):=by
 unfold b8;rw [UInt8.toNat_ofNat_of_lt' (by simpa using h)]
def Sl (w:World) (B:Nat) (A:Option Addr) (n:Nat) (l:List UInt8):Prop:=
 l.length=n/\(0<n-> ∃b off,A=some ⟨b,off,none⟩/\b<B/\ ∀j u,l[j]?=some u->w.cell? ⟨b,off+j,none⟩=some (b8 u))
section
variable {w w':World} {B B' n b off:Nat} {A:Option Addr} {l:List UInt8}
theorem Sl.len (h:Sl w B A n l):l.length=n:=h.1
theorem Sl.Wn:Sl w B A 0 []:=⟨rfl,λh=>absurd h (by omega)⟩
theorem Sl.at_ {k:Nat} (h:Sl w B A n l) (hk:k<n): ∃b off,A=some ⟨b,off,none⟩/\b<B/\w.cell? ⟨b,off+k,none⟩=some (.int .u8 ((l.getD k 0).toNat:Int)):=by
 obtain⟨b,off,e,hb,hc⟩:=h.2 (by omega);have hl:k<l.length:=by have:=h.1;omega
 refine⟨b,off,e,hb,?_⟩;rw [hc k l[k] (List.getElem?_eq_getElem hl)];simp [b8,List.getD,List.getElem?_eq_getElem hl]
theorem Sl.keep (h:Sl w B A n l) (hk: ∀p:Addr,p.block<B->w'.cell? p=w.cell? p):Sl w' B A n l:=
 ⟨h.1,λhn=>by
  obtain⟨b,off,e,hb,hc⟩:=h.2 hn;exact⟨b,off,e,hb,λj u hu=>(hk _ hb).trans (hc j u hu)⟩⟩
theorem Sl.more (h:Sl w B A n l) (hB:B<=B'):Sl w B' A n l:=
 ⟨h.1,λhn=>by
  obtain⟨b,off,e,hb,hc⟩:=h.2 hn;exact⟨b,off,e,by omega,hc⟩⟩
theorem Sl.below (h:Sl w B A n l) (hb:Below B w w'):Sl w' B A n l:=h.keep λ_ hp=>hb.cell hp
theorem Sl.drew (h:Sl w B A n l):Sl w.drew B A n l:=h
theorem Sl.drewN (h:Sl w B A n l) (k:Nat):Sl (w.drewN k) B A n l:=h
theorem Sl.alloc (h:Sl w B A n l) (hB:B<=w.heap.size) (o:Obj):Sl (w.alloc o) B A n l:=h.keep λp hp=>World.cell?_alloc_lt w o p (by omega)
theorem Sl.setCell (h:Sl w B A n l) {p:Addr} (hB:B<=p.block) (u:Value):Sl (w.setCell p u) B A n l:=
 h.keep λq hq=>World.cell?_setCell_other w p q u (λe=>by subst e;omega)
theorem Sl.grown (h:Sl w B A n l) {row:Option Nat} (hg:w.grownBy w' row) (hB:B<=w.heap.size) (hr: ∀g,row=some g->B<=g):Sl w' B A n l:=
 h.keep λp hp=>World.cell?_of_block (hg.block p.block (by omega) (λe=>by have:=hr _ e.symm;omega))
theorem Sl.jk {base:Nat} {e:TypeId} {c:Nat} (h:w.ownsRow base e 1 (.slice A n c) n (l.map b8)):Sl w w.heap.size A n l:=by
 have hlen:l.length=n:=by have:=h.1;simpa using this
 refine⟨hlen,λhn=> ?_⟩;obtain⟨g,cap,hv,_,hlt⟩:=h.form hn;have hA:A=some ⟨g,0,none⟩:=by injection hv
 subst hA;refine⟨g,0,rfl,hlt,λj u hu=> ?_⟩;have hc:=h.cells (g:=g) rfl j (b8 u) (by simp [hu]);have:(⟨g,0,none⟩:Addr).add j=⟨g,0+j,none⟩:=by
  unfold Addr.add;split<;>simp_all
 rw [<-this];exact hc
theorem Sl.Mw {cap:Nat} {zs:List Int} (h:(A=none/\n=0/\cap=0/\zs= [])\/
  ∃x,A=some x/\n<=cap/\cap<=maxLen/\zs.length=cap/\(∀i,i<zs.length->w.cell? (x.add i)=some (.int .u8 (zs.getD i 0)))/\ ∀m∈zs,(Lit.int .u8 m).wf=true):
  ∃l:List UInt8,Sl w w.heap.size A n l/\n<=cap/\cap<=maxLen:=by
 rcases h with ⟨rfl,rfl,rfl,rfl⟩|⟨x,rfl,hl,hm,hz,hcell,hwz⟩
 ·exact⟨[],Sl.Wn,Nat.le_refl _,by simp [maxLen]⟩
 ·have hr: ∀i,i<zs.length->0<=zs.getD i 0/\zs.getD i 0<=255:=by
   intro i hi;have hmem:zs.getD i 0∈zs:=by
    rw [List.getD_eq_getElem?_getD,List.getElem?_eq_getElem hi];simp
   have:=hwz _ hmem
   simpa [Lit.wf,IntKind.min,IntKind.max,IntKind.signed,IntKind.bits]using this
  refine⟨(zs.take n).map (λz=>UInt8.ofNat z.toNat),⟨by simp;omega,λhn=> ?_⟩,hl,hm⟩;obtain⟨b,off,spot⟩:=x;have ze:=hcell 0 (by omega);have hspot:spot=none:=by simpa [Addr.add]using World.cell?_spot ze
  subst hspot;have hadd: ∀i,(⟨b,off,none⟩:Addr).add i=⟨b,off+i,none⟩:=λi=>by unfold Addr.add;split<;>simp_all
  refine⟨b,off,rfl,?_,λj u hu=> ?_⟩
  ·rcases Nat.lt_or_ge b w.heap.size with hlt|hge
   ·exact hlt
   ·rw [hadd]at ze;simp [World.cell?,Array.getElem?_eq_none hge]at ze
  ·rw [List.getElem?_map]at hu;by_cases hj:j<n
   ·rw [List.getElem?_take_of_lt hj,List.getElem?_eq_getElem (by omega)]at hu;simp at hu;subst hu;have hb:=hr j (by omega);have hg:zs.getD j 0=zs[j]:=(by rw [List.getD_eq_getElem?_getD,List.getElem?_eq_getElem (by omega)];simp);rw [<-hadd,hcell j (by omega),hg];rw [hg]at hb;unfold b8;rw [UInt8.toNat_ofNat_of_lt' (by simp;omega)];congr 2;omega
   ·rw [List.getElem?_eq_none (by simp;omega)]at hu;simp at hu
theorem Sl.alj (h:Sl w B (some ⟨b,off,none⟩) n l) {m:Nat} (hm:n=m): ∀j u,(l.map b8)[j]?=some u->w.cell? ((⟨b,off,none⟩:Addr).add j)=some u:=by
 intro j u hu;rw [List.getElem?_map]at hu;rcases Option.map_eq_some_iff.1 hu with ⟨x,hx,rfl⟩;have hj:j<l.length:=by
  rcases Nat.lt_or_ge j l.length with h1|h1
  ·exact h1
  ·rw [List.getElem?_eq_none h1]at hx;cases hx
 obtain⟨b',off',e,_,hc⟩:=h.2 (by have:=h.1;omega);injection e with e;injection e with e1 e2;subst e1 e2;have hadd:(⟨b,off,none⟩:Addr).add j=⟨b,off+j,none⟩:=by unfold Addr.add;split<;>simp_all
 rw [hadd];exact hc j x hx
end
theorem KT (l:List UInt8): ∀u∈l.map b8,u.oneCell'=true:=by
 intro u hu;obtain⟨x,_,rfl⟩:=List.mem_map.1 hu;rfl
theorem Af {w:World} {base:Nat} {e:TypeId} {size:Nat} {A:Option Addr} {n c:Nat} {xs:List Value} (h:w.ownsRow base e size (.slice A n c) n xs):n<=c/\c<=maxLen:=by
 rcases h.2 with ⟨h1,h2⟩|⟨g,cap,cur,h1,_,_,h3,h4,_⟩
 ·injection h1 with _ _ h1;subst h1 h2;exact⟨Nat.le_refl _,by simp [maxLen]⟩
 ·injection h1 with _ _ h1;subst h1;exact⟨h3,h4⟩
theorem su {w:World} {base:Nat} {e:TypeId} {size:Nat} {v:Value} {n:Nat} {xs:List Value} (h:w.ownsRow base e size v n xs): ∃A c,v= .slice A n c:=by
 rcases h.2 with ⟨h1,h2⟩|⟨g,cap,cur,h1,_⟩
 ·subst h2;exact⟨_,_,h1⟩
 ·exact⟨_,_,h1⟩
section
variable {P:Program} (w:World)
theorem alk (base:Nat) (t ty e:TypeId) (i:TypeInfo) (z:Value) (ht:P.underlying t=some (.slice e)) (hi:P.info? e=some i) (hz:i.zero=some z)
  (hsize:i.size=1) (hby:i.bytes=1) (hzs:z.cells.size=1)
  (v:Value) (n:Nat) (xs:List Value) (hown:w.ownsRow base e 1 v n xs)
  (B:Nat) (A:Option Addr) (m c:Nat) (l:List UInt8) (hr:Sl w B A m l)
  (hnm:n+m<=140737488355328) (hbase:base<=w.heap.size):
  ∃v' w',(Builtin.append_ #[t,t] ty #[v,.slice A m c]).run P w= .ok v' w'/\w'.ownsRow base e 1 v' (n+m) (xs++l.map b8)/\w.grownBy w' v.ownBlock/\
   (v'.ownBlock=v.ownBlock\/v'.ownBlock=some w.heap.size):=by
 have Fz:n+m<=maxLen:=by simp only [maxLen];omega
 cases A with
 |none=>
  have hm:m=0:=by
   rcases Nat.eq_zero_or_pos m with h0|h0
   ·exact h0
   ·obtain⟨_,_,e,_⟩:=hr.2 h0;cases e
  subst hm;have hl:l= []:=List.eq_nil_of_length_eq_zero hr.1;subst hl;refine⟨v,w,?_,by simpa using hown,World.grownBy.refl w _,.inl rfl⟩;rcases hown.2 with ⟨rfl,rfl⟩|⟨g,cap,cur,rfl,_,_,hnc,_⟩
  ·simp [Builtin.append_,run_underlying ht,sizeOf,typeInfo,hi,Builtin.lenOf,Builtin.firstCells]
  ·simp [Builtin.append_,run_underlying ht,sizeOf,typeInfo,hi,Builtin.lenOf,Builtin.firstCells,hnc,storeCells]
 |some a=>
  have hcells: ∀j u,(l.map b8)[j]?=some u->w.cell? (a.add j)=some u:=by
   rcases Nat.eq_zero_or_pos m with h0|h0
   ·have hl:l= []:=List.eq_nil_of_length_eq_zero (by rw [hr.1];exact h0);subst hl;intro j u hu;simp at hu
   ·obtain⟨b,off,e,_,_⟩:=hr.2 h0;injection e with e;subst e;exact hr.alj rfl
  obtain⟨v',w',hrun,h2,h3,_,h5⟩:=run_append_own_at (P:=P) w base t ty e i z 1 1 ht hi hz hsize hby hzs (by omega) v n xs hown a m c (l.map b8) (by simp [hr.1]) hcells (KT l) Fz (by omega) hbase;exact⟨v',w',hrun,h2,h3,h5⟩
theorem Vx {ops:Array Oper} {rest:List Oper} {o:Oper} {a:Act} {Q:Exit->Act->World->Prop} (hgd:o.guard=none) (s x:Operand) (t:TypeId)
  (ho:o.op= .call { callee:= .builtin .append,args:= #[s,x],argTypes:= #[t,t] })
  (base:Nat) (e:TypeId) (i:TypeInfo) (z:Value) (ht:P.underlying t=some (.slice e)) (hi:P.info? e=some i) (hz:i.zero=some z)
  (hsize:i.size=1) (hby:i.bytes=1) (hzs:z.cells.size=1)
  (v:Value) (n:Nat) (xs:List Value) (hs:a.eval s=v) (hown:w.ownsRow base e 1 v n xs)
  (B:Nat) (A:Option Addr) (m c:Nat) (l:List UInt8) (hx:a.eval x= .slice A m c) (hr:Sl w B A m l)
  (hnm:n+m<=140737488355328) (hbase:base<=w.heap.size)
  (h: ∀v' w',w'.ownsRow base e 1 v' (n+m) (xs++l.map b8)->w.grownBy w' v.ownBlock->(v'.ownBlock=v.ownBlock\/v'.ownBlock=some w.heap.size)->wpList P ops Q rest (a.put o.dst v') w'):wpList P ops Q (o::rest) a w:=by
 refine wpList_plain hgd λK hK=> ?_;obtain⟨v',w',hrun,h2,h3,h4⟩:=alk (P:=P) w base t o.type e i z ht hi hz hsize hby hzs v n xs hown B A m c l hr hnm hbase;unfold Oper.wp execOp;simp only [ho,resolve,invoke,builtin,Sem.run_bind,Sem.run_pure,Result.andThen_ok,List.map_toArray,List.map_cons,List.map_nil,hs,hx,hrun];exact hK _ _ (h v' w' h2 h3 h4)
end
def Dr (w w':World):Prop:= ∃k,w'=w.drewN k
theorem Dr.refl (w:World):Dr w w:=⟨0,rfl⟩
theorem Dr.more {w w':World} (h:Dr w w') (k:Nat):Dr w (w'.drewN k):=by
 obtain⟨q,rfl⟩:=h;exact⟨q+k,by rw [World.drewN_drewN]⟩
theorem Dr.below {w w':World} (h:Dr w w') (B:Nat):Below B w w':=by
 obtain⟨k,rfl⟩:=h;exact⟨rfl,rfl,rfl,Nat.le_refl _,λ_ _=>rfl⟩
def Base (w W:World):Prop:=Below w.heap.size w W
theorem Base.refl (w:World):Base w w:=Below.refl _ _
theorem Base.of {w W:World} (h:Below w.heap.size w W):Base w W:=h
theorem Base.drew {w W:World} (h:Base w W):Base w W.drew:=Below.drew h
theorem Base.alloc {w W:World} (h:Base w W) (o:Obj):Base w (W.alloc o):=Below.alloc h (Below.size h) o
theorem Base.step {w W V:World} (h:Base w W) (k:Below W.heap.size W V):Base w V:=Below.trans h (Below.mono k (Below.size h))
theorem Base.dr {w W V:World} (h:Base w W) (k:Dr W V):Base w V:=h.step (k.below _)
theorem Sl.base {w W:World} {n:Nat} {A:Option Addr} {l:List UInt8} (h:Sl w w.heap.size A n l) (k:Base w W):Sl W W.heap.size A n l:=(h.below k).more (Below.size k)
end
section
theorem QN (k:IntKind) (j:Nat) (hj:j<=k.bits) (hk: ∀n:Int,0<=n->n<2^j->k.wrap n=n) (a b:Nat) (ha:a<2^j) (hb:b<2^j):
  bits .xor k a b=((a^^^b:Nat):Int):=by
 have hp:2^j<=2^k.bits:=Nat.pow_le_pow_right (by decide) hj;have ha':a%2^k.bits=a:=Nat.mod_eq_of_lt (Nat.lt_of_lt_of_le ha hp);have hb':b%2^k.bits=b:=Nat.mod_eq_of_lt (Nat.lt_of_lt_of_le hb hp);have hx:a^^^b<2^j:=Nat.xor_lt_two_pow ha hb;simp only [bits,BitVec.ofInt_natCast,BitVec.toNat_xor,BitVec.toNat_ofNat,ha',hb'];exact hk _ (Int.natCast_nonneg _) (by exact_mod_cast hx)
theorem QO (n:Int) (h₀:0<=n) (h₁:n<2^32):IntKind.u32.wrap n=n:=by rw [IntKind.wrap_u32];omega
theorem Eo (n:Int) (h₀:0<=n) (h₁:n<2^64):IntKind.u64.wrap n=n:=by rw [IntKind.wrap_u64];omega
theorem fO (n:Int) (h₀:0<=n) (h₁:n<2^63):IntKind.i64.wrap n=n:=by rw [IntKind.wrap_i64];omega
theorem ahS (a b:UInt8):bits .xor .u8 (a.toNat:Int) (b.toNat:Int)=((a^^^b).toNat:Int):=by
 rw [QN .u8 8 (by decide) wraps_u8 _ _ a.toNat_lt b.toNat_lt,UInt8.toNat_xor]
theorem Vy (a b:Nat) (ha:a<256) (hb:b<256):bits .or .u8 (a:Int) (b:Int)=((a|||b:Nat):Int):=
 (bits_nat .u8 8 (by decide) wraps_u8 a b ha hb).2
theorem Ac (a b:Nat) (ha:a<4294967296) (hb:b<4294967296):bits .or .u32 (a:Int) (b:Int)=((a|||b:Nat):Int):=
 (bits_nat .u32 32 (by decide) QO a b ha hb).2
theorem abA (a b:Nat) (ha:a<18446744073709551616) (hb:b<18446744073709551616):bits .or .u64 (a:Int) (b:Int)=((a|||b:Nat):Int):=
 (bits_nat .u64 64 (by decide) Eo a b ha hb).2
theorem VI (a:Nat) (ha:a<18446744073709551616):bits .and .u64 (a:Int) 1=((a%2:Nat):Int):=by
 have h:=(bits_nat .u64 64 (by decide) Eo a 1 ha (by decide)).1;rw [Nat.and_one_is_mod]at h;exact h
theorem Wz {α:Type} {P:List α->Prop} (h0:P []) (h1: ∀l a,P l->P (l++ [a])) (l:List α):P l:=by
 have H: ∀r:List α,P r.reverse:=by
  intro r
  induction r with
  |nil=>exact h0
  |cons a r ih=>rw [List.reverse_cons];exact h1 _ _ ih
 have:=H l.reverse
 rwa [List.reverse_reverse]at this
def val (l:List UInt8):Nat:=l.foldl (λx b=>x*256+b.toNat) 0
def num (l:List UInt8):Nat:=val l%18446744073709551616
theorem IB (l:List UInt8) (b:UInt8):val (l++ [b])=val l*256+b.toNat:=by
 unfold val;rw [List.foldl_append];rfl
theorem val_append (a b:List UInt8):val (a++b)=val a*256^b.length+val b:=by
 refine Wz (P:=λb=>val (a++b)=val a*256^b.length+val b) ?_ ?_ b
 ·simp [val]
 ·intro b x ih;rw [<-List.append_assoc,IB,ih,IB,List.length_append,Nat.add_mul,Nat.mul_assoc,List.length_singleton,Nat.pow_succ];omega
theorem LD (l:List UInt8):num l<18446744073709551616:=Nat.mod_lt _ (by decide)
theorem alm (l:List UInt8) (b:UInt8):num (l++ [b])=(num l*256+b.toNat)%18446744073709551616:=by
 unfold num;rw [IB];omega
theorem VH (l:List UInt8) (k:Nat) (h:k<l.length):num (l.take (k+1))=(num (l.take k)*256+(l[k]?.getD 0).toNat)%18446744073709551616:=by
 rw [List.take_succ_eq_append_getElem h,alm];simp [List.getElem?_eq_getElem h]
theorem adr (a b:List UInt8) (h:b.length=8):num (a++b)=num b:=by
 unfold num;rw [val_append,h];have:(256:Nat)^8=18446744073709551616:=by decide
 omega
def fH (x:Nat):Nat->List UInt8
 |0=> []
 |k+1=>UInt8.ofNat (x/256^k)::fH x k
theorem ail (x k:Nat):(fH x k).length=k:=by
 induction k with
 |zero=>rfl
 |succ k ih=>simp [fH,ih]
theorem Uf (x k:Nat):fH x (k+1)=fH (x/256) k++ [UInt8.ofNat x]:=by
 induction k with
 |zero=>simp [fH]
 |succ k ih=>
  rw [fH,ih,fH];simp only [List.cons_append];rw [Nat.div_div_eq_div_mul,<-Nat.pow_succ']
theorem aln (x:Nat): ∀k,fH (x%256^k) k=fH x k:=by
 intro k
 induction k generalizing x with
 |zero=>rfl
 |succ k ih=>
  have h1:x%256^(k+1)/256=x/256%256^k:=by
   rw [Nat.pow_succ',Nat.mod_mul_right_div_self]
  have h2:UInt8.ofNat (x%256^(k+1))=UInt8.ofNat x:=by
   apply UInt8.toNat_inj.1;simp only [UInt8.toNat_ofNat'];exact Nat.mod_mod_of_dvd _ ⟨256^k,by rw [Nat.pow_succ']⟩
  rw [Uf,Uf,h1,h2,ih]
theorem Xh (l:List UInt8):fH (val l) l.length=l:=by
 refine Wz (P:=λl=>fH (val l) l.length=l) rfl ?_ l
 ·intro l b ih;have hb:=b.toNat_lt;have h1:(val l*256+b.toNat)/256=val l:=by omega
  have h2:UInt8.ofNat (val l*256+b.toNat)=b:=by
   apply UInt8.toNat_inj.1;simp only [UInt8.toNat_ofNat'];omega
  rw [List.length_append,List.length_singleton,Uf,IB,h1,h2,ih]
theorem ads (x k:Nat):val (fH x k)=x%256^k:=by
 induction k generalizing x with
 |zero=>simp [fH,val,Nat.mod_one]
 |succ k ih=>
  have e:x%256^(k+1)=x%256+256*(x/256%256^k):=by rw [Nat.pow_succ'];exact Nat.mod_mul
  have e2:(UInt8.ofNat x).toNat=x%256:=UInt8.toNat_ofNat';rw [Uf,IB,ih,e,e2,Nat.mul_comm,Nat.add_comm]
theorem adt (k:Nat) (h:k<=8):256^k<=18446744073709551616:=by
 have:(256:Nat)^8=18446744073709551616:=by decide
 rw [<-this];exact Nat.pow_le_pow_right (by decide) h
theorem aim (x k:Nat) (h:k<=8):num (fH x k)=x%256^k:=by
 unfold num;rw [ads,Nat.mod_eq_of_lt];exact Nat.lt_of_lt_of_le (Nat.mod_lt _ (Nat.pow_pos (by decide))) (adt k h)
theorem aio (l:List UInt8):fH (num l) (min l.length 8)=l.drop (l.length-min l.length 8):=by
 rcases Nat.lt_or_ge l.length 8 with h|h
 ·rw [Nat.min_eq_left (by omega),Nat.sub_self,List.drop_zero];have h1:num l=val l%256^l.length%18446744073709551616/\val l%256^l.length=val l:=by
   have h2:val l<256^l.length:=by
    have h3:=ads (val l) l.length;rw [Xh]at h3;rw [h3];exact Nat.mod_lt _ (Nat.pow_pos (by decide))
   refine⟨?_,Nat.mod_eq_of_lt h2⟩;rw [Nat.mod_eq_of_lt h2];rfl
  have h4:num l=val l:=by
   rw [h1.1,h1.2,Nat.mod_eq_of_lt];have:=Nat.mod_lt (val l) (Nat.pow_pos (n:=l.length) (show 0<256 by decide));rw [h1.2]at this;exact Nat.lt_of_lt_of_le this (adt _ (by omega))
  rw [h4,Xh]
 ·rw [Nat.min_eq_right h];have h1:(l.drop (l.length-8)).length=8:=by simp;omega
  have h2:num l=num (l.drop (l.length-8)):=by
   conv=>lhs;rw [<-List.take_append_drop (l.length-8) l]
   exact adr _ _ h1
  have h3:=Xh (l.drop (l.length-8));rw [h1]at h3;have h4:=aln (val (l.drop (l.length-8))) 8;rw [h3]at h4;rw [h2];exact h4
theorem ahJ (l:List UInt8):num (l.drop (l.length-8))=num l:=by
 rcases Nat.lt_or_ge l.length 8 with h|h
 ·rw [show l.length-8=0 by omega,List.drop_zero]
 ·conv=>rhs;rw [<-List.take_append_drop (l.length-8) l]
  exact(adr _ _ (by simp;omega)).symm
def Ug (x:Nat):Nat:=(x*2+x/2147483648)%4294967296
def mf (x:Nat):Nat->Nat
 |0=>x
 |k+1=>Ug (mf x k)
def Kh (x k:Nat):Nat:=x*2^k%4294967296+x/2^(32-k)
theorem Xi (x k:Nat) (hk:k<=32):Kh x k=x%2^(32-k)*2^k+x/2^(32-k):=by
 unfold Kh;rw [show 4294967296=2^k*2^(32-k)by rw [<-Nat.pow_add,show k+(32-k)=32 by omega],Nat.mul_comm x,Nat.mul_mod_mul_left,Nat.mul_comm (2^k)]
theorem alo (x K M:Nat) (XV:M*K=2147483648) (hx:x<4294967296):
  Ug (x%(M*2)*K+x/(M*2))=x%M*(K*2)+x/M:=by
 have hM:0<M:=Nat.pos_of_ne_zero (by rintro rfl;simp at XV);have e1:x%(M*2)=x%M+M*(x/M%2):=Nat.mod_mul;have e2:x/(M*2)=x/M/2:=by rw [Nat.div_div_eq_div_mul]
 have e3:M*(x/M%2)*K=2147483648*(x/M%2):=by rw [Nat.mul_right_comm,XV]
 have e4:x%M*(K*2)=x%M*K*2:=by rw [Nat.mul_assoc]
 have h1:(x%M+1)*K<=M*K:=Nat.mul_le_mul_right K (Nat.mod_lt x hM);have h2:x/M<K*2:=by rw [Nat.div_lt_iff_lt_mul hM,Nat.mul_right_comm,Nat.mul_comm K M,XV];omega
 rw [e1,e2,Nat.add_mul,e3,e4];rw [Nat.add_mul,Nat.one_mul,XV]at h1;generalize x%M*K=Y at*;generalize x/M=q at*;unfold Ug;have h3:(Y+2147483648*(q%2)+q/2)/2147483648=q%2:=by omega
 rw [h3];omega
theorem alp (x k:Nat) (hx:x<4294967296) (hk:k<32):Ug (Kh x k)=Kh x (k+1):=by
 rw [Xi x k (by omega),Xi x (k+1) (by omega)];have h1:2^(32-k)=2^(32-(k+1))*2:=by rw [<-Nat.pow_succ];congr 1;omega
 have h2:2^(32-(k+1))*2^k=2147483648:=by rw [<-Nat.pow_add,show 32-(k+1)+k=31 by omega]
 rw [h1,Nat.pow_succ 2 k];exact alo x (2^k) (2^(32-(k+1))) h2 hx
theorem Xj (x:Nat) (hx:x<4294967296): ∀k,k<=32->mf x k=Kh x k
 |0,_=>by unfold mf Kh;simp;omega
 |k+1,h=>by rw [mf,Xj x hx k (by omega),alp x k hx (by omega)]
theorem Xk (x:Nat) (hx:x<4294967296): ∀k,mf x k<4294967296
 |0=>hx
 |_+1=>Nat.mod_lt _ (by decide)
theorem Xl (x k:Nat) (hx:x<4294967296) (hk:k<32):x*2^k%4294967296|||x/2^(32-k)=mf x k:=by
 rw [Xj x hx k (by omega)];unfold Kh;have h1:x/2^(32-k)<2^k:=by
  rw [Nat.div_lt_iff_lt_mul (Nat.two_pow_pos _),<-Nat.pow_add,show k+(32-k)=32 by omega];exact hx
 have h2:x*2^k%4294967296=2^k*(x%2^(32-k)):=by
  rw [show 4294967296=2^k*2^(32-k)by rw [<-Nat.pow_add,show k+(32-k)=32 by omega],Nat.mul_comm,Nat.mul_mod_mul_left]
 rw [h2,Nat.two_pow_add_eq_or_of_lt h1]
def zW (x:Nat):Nat->Nat->Nat
 |0,i=>i
 |f+1,i=>if x/2^i%2=1 then i else zW x f (i+1)
def jF (x:Nat):Nat:=zW x 64 0
theorem adu (x r:Nat): ∀f i,i<=r->r<=i+f->(∀j,i<=j->j<r->x/2^j%2=0)->(r<i+f->x/2^r%2=1)->zW x f i=r
 |0,i,h1,h2,_,_=>by unfold zW;omega
 |f+1,i,h1,h2,h3,h4=>by
  unfold zW;by_cases hr:i=r
  ·subst hr;rw [if_pos (h4 (by omega))]
  ·rw [if_neg (by rw [h3 i (Nat.le_refl _) (by omega)];decide)];exact adu x r f (i+1) (by omega) (by omega) (λj a b=>h3 j (by omega) b) (λh=>h4 (by omega))
theorem Sk (x r:Nat) (h2:r<=64) (h3: ∀j,j<r->x/2^j%2=0) (h4:r<64->x/2^r%2=1):jF x=r:=
 adu x r 64 0 (Nat.zero_le _) (by omega) (λj _ b=>h3 j b) (λh=>h4 (by omega))
end
section
def iI (a:Nat):Nat:=(2*a)^^^(if a.testBit 7 then 283 else 0)
def pw (a:Nat):Nat->Nat
 |0=>a
 |k+1=>iI (pw a k)
def nV (a b:Nat):Nat->Nat
 |0=>0
 |k+1=>nV a b k^^^(if b.testBit k then pw a k else 0)
def mul (a b:Nat):Nat:=nV a b 8
theorem alq (x y:Nat):2*(x^^^y)=(2*x)^^^(2*y):=by
 have h:=Nat.shiftLeft_xor_distrib (a:=x) (b:=y) (i:=1);simp only [Nat.shiftLeft_eq]at h;rw [Nat.mul_comm 2,Nat.mul_comm 2,Nat.mul_comm 2];exact h
theorem Na (a b c d:Nat):(a^^^b)^^^(c^^^d)=(a^^^c)^^^(b^^^d):=by
 rw [Nat.xor_assoc,Nat.xor_assoc,<-Nat.xor_assoc b,Nat.xor_comm b c,Nat.xor_assoc c]
theorem QP (p q:Bool) (c:Nat):(if(p^^q)=true then c else 0)=(if p=true then c else 0)^^^(if q=true then c else 0):=by
 cases p<;>cases q<;>simp
theorem alr (x y:Nat):iI (x^^^y)=iI x^^^iI y:=by
 unfold iI;rw [alq,Nat.testBit_xor,QP,Na]
theorem adv (x y:Nat): ∀k,pw (x^^^y) k=pw x k^^^pw y k
 |0=>rfl
 |k+1=>by rw [pw,adv x y k,alr];rfl
theorem als (p:Bool) (c d:Nat):(if p=true then c^^^d else 0)=(if p=true then c else 0)^^^(if p=true then d else 0):=by
 cases p<;>simp
theorem adw (x y b:Nat): ∀k,nV (x^^^y) b k=nV x b k^^^nV y b k
 |0=>by simp [nV]
 |k+1=>by rw [nV,adw x y b k,adv,als,Na];rfl
theorem adx (a x y:Nat): ∀k,nV a (x^^^y) k=nV a x k^^^nV a y k
 |0=>by simp [nV]
 |k+1=>by rw [nV,adx a x y k,Nat.testBit_xor,QP,Na];rfl
theorem mul_left (x y b:Nat):mul (x^^^y) b=mul x b^^^mul y b:=adw x y b 8
theorem mul_right (a x y:Nat):mul a (x^^^y)=mul a x^^^mul a y:=adx a x y 8
theorem alu (b k:Nat):b%2^(k+1)=b%2^k^^^(if b.testBit k then 2^k else 0):=by
 apply Nat.eq_of_testBit_eq;intro i;rw [Nat.testBit_xor,Nat.testBit_mod_two_pow,Nat.testBit_mod_two_pow];cases h:b.testBit k
 ·simp;rcases Nat.lt_trichotomy i k with h1|rfl|h1
  ·simp [h1,show i<k+1 by omega]
  ·simp [h]
  ·simp [show¬i<k by omega,show¬i<k+1 by omega]
 ·simp [Nat.testBit_two_pow];rcases Nat.lt_trichotomy i k with h1|rfl|h1
  ·simp [h1,show i<k+1 by omega,show¬k=i by omega]
  ·simp [h]
  ·simp [show¬i<k by omega,show¬i<k+1 by omega,show¬k=i by omega]
theorem Ia (f g:Nat->Nat) (hf: ∀x y,f (x^^^y)=f x^^^f y) (hg: ∀x y,g (x^^^y)=g x^^^g y) (h: ∀k,k<8->f (2^k)=g (2^k)) (b:Nat) (hb:b<256):f b=g b:=by
 have f0:f 0=0:=by have:=hf 0 0;simpa using this
 have g0:g 0=0:=by have:=hg 0 0;simpa using this
 have H: ∀k,k<=8->f (b%2^k)=g (b%2^k):=by
  intro k
  induction k with
  |zero=>intro _;simp [Nat.mod_one,f0,g0]
  |succ k ih=>
   intro hk;rw [alu,hf,hg,ih (by omega)];cases b.testBit k
   ·simp [f0,g0]
   ·simp [h k (by omega)]
 have:=H 8 (Nat.le_refl _)
 rwa [Nat.mod_eq_of_lt (show b<2^8 by omega)]at this
theorem alv: ∀k,k<8-> ∀j,j<8->mul (2^j) (2^k)=mul (2^k) (2^j):=by decide+kernel
theorem Tv (a b:Nat) (ha:a<256) (hb:b<256):mul a b=mul b a:=by
 have H1: ∀k,k<8->mul a (2^k)=mul (2^k) a:=λk hk=>
  Ia (λa=>mul a (2^k)) (λa=>mul (2^k) a) (λx y=>mul_left x y (2^k)) (λx y=>mul_right (2^k) x y) (λj hj=>alv k hk j hj) a ha
 exact Ia (λb=>mul a b) (λb=>mul b a) (λx y=>mul_right a x y) (λx y=>mul_left x y a) H1 b hb
theorem WE (a b c:Nat) (ha:a<256) (hb:b<256) (hc:c<256):mul (mul a b) c=mul a (mul b c):=by
 refine Ia (λc=>mul (mul a b) c) (λc=>mul a (mul b c)) (mul_right _) (λx y=>by simp only [mul_right]) (λk hk=> ?_) c hc;refine Ia (λb=>mul (mul a b) (2^k)) (λb=>mul a (mul b (2^k))) (λx y=>by simp only [mul_right,mul_left]) (λx y=>by simp only [mul_right,mul_left]) (λj hj=> ?_) b hb;refine Ia (λa=>mul (mul a (2^j)) (2^k)) (λa=>mul a (mul (2^j) (2^k))) (λx y=>by simp only [mul_left]) (λx y=>by simp only [mul_left]) (λi hi=> ?_) a ha;have H: ∀k,k<8-> ∀j,j<8-> ∀i,i<8->mul (mul (2^i) (2^j)) (2^k)=mul (2^i) (mul (2^j) (2^k)):=by decide+kernel
 exact H k hk j hj i hi
theorem QQ (a:Nat) (h:a<256):iI a<256:=by
 have H: ∀a,a<256->iI a<256:=by decide+kernel
 exact H a h
theorem WB (a:Nat) (h:a<256): ∀k,pw a k<256
 |0=>h
 |k+1=>QQ _ (WB a h k)
theorem ku (a b:Nat) (ha:a<256) (hb:b<256):a^^^b<256:=Nat.xor_lt_two_pow (n:=8) ha hb
theorem WC (a b:Nat) (h:a<256): ∀k,nV a b k<256
 |0=>by simp [nV]
 |k+1=>by
  unfold nV;refine ku _ _ (WC a b h k) ?_;split
  ·exact WB a h k
  ·omega
theorem mul_lt (a b:Nat) (h:a<256):mul a b<256:=WC a b h 8
theorem ajn (a b k:Nat) (hb:b/2^k=0) (hk:k<=8):nV a b k=mul a b:=by
 have H: ∀j,nV a b (k+j)=nV a b k:=by
  intro j
  induction j with
  |zero=>rfl
  |succ j ih=>
   rw [<-Nat.add_assoc,nV,ih];have h1:b<2^k:=by
    rcases Nat.lt_or_ge b (2^k)with h|h
    ·exact h
    ·have:=Nat.div_pos h (Nat.two_pow_pos k);omega
   have h2:b.testBit (k+j)=false:=Nat.testBit_lt_two_pow (Nat.lt_of_lt_of_le h1 (Nat.pow_le_pow_right (by decide) (by omega)));simp [h2]
 have:=H (8-k);rw [show k+(8-k)=8 by omega]at this;exact this.symm
theorem Tx (a:Nat) (h:a<256):mul a 1=a:=by
 have H: ∀a,a<256->mul a 1=a:=by decide+kernel
 exact H a h
theorem Qn (a:Nat) (h:a<256):mul 1 a=a:=by rw [Tv 1 a (by omega) h,Tx a h]
def dI (a:Nat):Nat->Nat
 |0=>1
 |n+1=>mul (dI a n) a
theorem xx (a:Nat): ∀n,dI a n<256
 |0=>by simp [dI]
 |n+1=>mul_lt _ _ (xx a n)
theorem Nb (a n:Nat) (h:a<256): ∀m,dI a (n+m)=mul (dI a n) (dI a m)
 |0=>(Tx _ (xx a n)).symm
 |m+1=>by rw [<-Nat.add_assoc,dI,Nb a n h m,WE _ _ _ (xx a n) (xx a m) h];rfl
theorem ady (a:Nat) (h:a<256):dI a 1=a:=Qn a h
theorem acH (a n:Nat) (h:a<256):dI (mul a a) n=dI a (2*n):=by
 induction n with
 |zero=>rfl
 |succ n ih=>
  have e:dI a 2=mul a a:=by rw [show 2=1+1 from rfl,Nb a 1 h 1,ady a h]
  rw [dI,ih,show 2*(n+1)=2*n+2 by omega,Nb a _ h,e]
def inv (a:Nat):Nat:=dI a 254
theorem Xm (a:Nat):inv a<256:=xx a 254
def chain (a:Nat):Nat:=
 let b:=mul a a
 let c:=mul b b
 let d:=mul c c
 let e:=mul d d
 let f:=mul e e
 let g:=mul f f
 let h:=mul g g
 mul (mul (mul (mul (mul (mul b c) d) e) f) g) h
theorem adz (a:Nat) (h:a<256):inv a=chain a:=by
 unfold chain inv;have h1:=ady a h;have h2:mul a a=dI a 2:=by rw [show 2=1+1 from rfl,Nb a 1 h,h1]
 simp only [h2,<-Nb a _ h]
theorem inv_mul (a:Nat) (h:a<256) (h0:a≠0):mul a (inv a)=1:=by
 have H: ∀a,a<256->a≠0->mul a (chain a)=1:=by decide+kernel
 rw [adz a h];exact H a h h0
theorem alx (b:Nat):mul 0 b=0:=by
 have h:=mul_left 0 0 b
 simpa using h
theorem aly (a i:Nat) (h:a<256) (hi:i<256) (h1:mul a i=1):i=inv a:=by
 have h0:a≠0:=by
  rintro rfl;rw [alx]at h1;omega
 have e:mul (mul i a) (inv a)=mul i (mul a (inv a)):=WE i a _ hi h (Xm a);rw [inv_mul a h h0,Tx i hi,Tv i a hi h,h1,Qn _ (Xm a)]at e;exact e.symm
theorem alz (a:Nat) (h:a<256) (h0:a≠0):dI a 255=1:=by
 have:dI a 255=mul (inv a) a:=rfl;rw [this,Tv _ a (Xm a) h,inv_mul a h h0]
def bt (a i:Nat):Nat:=a/2^i%2
def up (P:Nat->Nat) (j v:Nat):Nat->Nat:=λi=>if i=j then P i+v else P i
def MI (P:Nat->Nat) (a b i:Nat):Nat->Nat->Nat
 |0=>P
 |k+1=>up (MI P a b i k) (i+k) (bt a i*bt b k)
def Cg (a b:Nat):Nat->Nat->Nat
 |0=>λ_=>0
 |i+1=>MI (Cg a b i) a b i 8
def MH (Q:Nat->Nat) (i:Nat):Nat->Nat:=if Q i%2=1 then up (up (up (up Q (i-4) 1) (i-5) 1) (i-7) 1) (i-8) 1 else Q
def red (P:Nat->Nat):Nat->Nat->Nat
 |0=>P
 |n+1=>MH (red P n) (14-n)
def fin (P:Nat->Nat):Nat->Nat
 |0=>0
 |n+1=>fin P n+P n%2*2^n
theorem Tz (P:Nat->Nat): ∀n,fin P n<2^n
 |0=>by simp [fin]
 |n+1=>by
  have:=Tz P n;have h1:P n%2*2^n<=1*2^n:=Nat.mul_le_mul_right _ (by omega);unfold fin;rw [Nat.pow_succ];omega
theorem Nc (P:Nat->Nat) (j:Nat): ∀n,(fin P n).testBit j=(decide (j<n) && decide (P j%2=1))
 |0=>by simp [fin]
 |n+1=>by
  have h:=Tz P n;have e:fin P (n+1)=2^n*(P n%2)+fin P n:=(Nat.add_comm _ _).trans (congrArg (· +fin P n) (Nat.mul_comm _ _));rw [e];rcases Nat.lt_or_ge j n with h1|h1
  ·rw [Nat.testBit_two_pow_mul_add _ h,if_pos h1,Nc P j n];simp [h1,show j<n+1 by omega]
  ·rw [Nat.testBit_two_pow_mul_add _ h,if_neg (by omega)];rcases Nat.eq_or_lt_of_le h1 with rfl|h2
   ·rw [Nat.sub_self,Nat.testBit_zero];have h3:=Nat.mod_two_eq_zero_or_one (P n);rcases h3 with h3|h3<;>simp [h3]
   ·have h3:(P n%2).testBit (j-n)=false:=Nat.testBit_lt_two_pow (by
     have:2^1<=2^(j-n):=Nat.pow_le_pow_right (by decide) (by omega);omega)
    simp [h3,show¬j<n+1 by omega]
theorem QR (P:Nat->Nat) (j v n:Nat) (hj:j<n):fin (up P j v) n=fin P n^^^(if v%2=1 then 2^j else 0):=by
 apply Nat.eq_of_testBit_eq;intro i;rw [Nat.testBit_xor,Nc,Nc];unfold up;by_cases hi:i=j
 ·subst hi;rcases Nat.mod_two_eq_zero_or_one v with hv|hv<;>rcases Nat.mod_two_eq_zero_or_one (P i)with hp|hp<;>simp [hv,hp,hj,Nat.add_mod]
 ·have h2:(if v%2=1 then 2^j else 0).testBit i=false:=by
   split
   ·rw [Nat.testBit_two_pow];simp;omega
   ·simp
  rw [h2,if_neg hi];simp
theorem alA (P:Nat->Nat):fin P 8=fin P 15%256:=by
 apply Nat.eq_of_testBit_eq;intro i;rw [show 256=2^8 from rfl,Nat.testBit_mod_two_pow,Nc,Nc];by_cases h:i<8
 ·simp [h,show i<15 by omega]
 ·simp [h]
def Cu (x a b i:Nat):Nat->Nat
 |0=>x
 |k+1=>Cu x a b i k^^^(if a.testBit i && b.testBit k then 2^(i+k)else 0)
def zy (a b:Nat):Nat->Nat
 |0=>0
 |i+1=>Cu (zy a b i) a b i 8
def rc (i:Nat):Nat:=((2^(i-4)^^^2^(i-5))^^^2^(i-7))^^^2^(i-8)
def FK (x:Nat):Nat->Nat
 |0=>x
 |n+1=>FK x n^^^(if(FK x n).testBit (14-n)then rc (14-n)else 0)
def Ki (a b:Nat):Nat:=FK (zy a b 8) 7%256
theorem alB (a b i k:Nat):(bt a i*bt b k%2=1)=((a.testBit i && b.testBit k)=true):=by
 unfold bt;rw [Nat.testBit_eq_decide_div_mod_eq,Nat.testBit_eq_decide_div_mod_eq];rcases Nat.mod_two_eq_zero_or_one (a/2^i)with h1|h1<;>rcases Nat.mod_two_eq_zero_or_one (b/2^k)with h2|h2<;>simp [h1,h2]
theorem adA (P:Nat->Nat) (a b i:Nat) (hi:i<8): ∀k,k<=8->fin (MI P a b i k) 15=Cu (fin P 15) a b i k
 |0,_=>rfl
 |k+1,hk=>by
  rw [MI,QR _ _ _ _ (by omega),adA P a b i hi k (by omega)];simp only [alB];rfl
theorem adB: ∀n,fin (λ_=>0) n=0
 |0=>rfl
 |n+1=>by unfold fin;rw [adB n];simp
theorem adC (a b:Nat): ∀i,i<=8->fin (Cg a b i) 15=zy a b i
 |0,_=>adB 15
 |i+1,hi=>by rw [Cg,adA _ _ _ _ (by omega) 8 (Nat.le_refl _),adC a b i (by omega)];rfl
theorem adD (P:Nat->Nat): ∀n,n<=7->fin (red P n) 15=FK (fin P 15) n
 |0,_=>rfl
 |n+1,hn=>by
  have ih:=adD P n (by omega);have hb:=Nc (red P n) (14-n) 15;rw [ih]at hb;rw [red,FK,MH,hb];by_cases h:red P n (14-n)%2=1
  ·rw [if_pos h,QR _ _ _ _ (by omega),QR _ _ _ _ (by omega),QR _ _ _ _ (by omega),QR _ _ _ _ (by omega),ih];simp [h,show 14-n<15 by omega,rc,Nat.xor_assoc]
  ·rw [if_neg h,ih];simp [h]
theorem alC (a b:Nat):fin (red (Cg a b 8) 7) 8=Ki a b:=by
 rw [alA,adD _ 7 (Nat.le_refl _),adC _ _ 8 (Nat.le_refl _)];rfl
theorem alD (p q r:Bool):((p^^q) && r)=((p && r)^^(q && r)):=by cases p<;>cases q<;>cases r<;>rfl
theorem alE (p q r:Bool):(r && (p^^q))=((r && p)^^(r && q)):=by cases p<;>cases q<;>cases r<;>rfl
theorem adE (x x' a b b' i:Nat): ∀k,Cu (x^^^x') a (b^^^b') i k=Cu x a b i k^^^Cu x' a b' i k
 |0=>rfl
 |k+1=>by rw [Cu,adE x x' a b b' i k,Nat.testBit_xor,alE,QP,Na];rfl
theorem adF (a b b':Nat): ∀i,zy a (b^^^b') i=zy a b i^^^zy a b' i
 |0=>by simp [zy]
 |i+1=>by rw [zy,adF a b b' i,adE];rfl
theorem adG (x x' a a' b i:Nat): ∀k,Cu (x^^^x') (a^^^a') b i k=Cu x a b i k^^^Cu x' a' b i k
 |0=>rfl
 |k+1=>by rw [Cu,adG x x' a a' b i k,Nat.testBit_xor,alD,QP,Na];rfl
theorem adH (a a' b:Nat): ∀i,zy (a^^^a') b i=zy a b i^^^zy a' b i
 |0=>by simp [zy]
 |i+1=>by rw [zy,adH a a' b i,adG];rfl
theorem Xn (x y:Nat): ∀n,FK (x^^^y) n=FK x n^^^FK y n
 |0=>rfl
 |n+1=>by rw [FK,Xn x y n,Nat.testBit_xor,QP,Na];rfl
theorem adI (x y:Nat):(x^^^y)%256=(x%256)^^^(y%256):=by
 rw [show 256=2^8 from rfl,Nat.xor_mod_two_pow]
theorem alF (a b:Nat) (ha:a<256) (hb:b<256):Ki a b=mul a b:=by
 refine Ia (λb=>Ki a b) (λb=>mul a b) (λx y=>by simp only [Ki,adF,Xn,adI]) (mul_right a) (λk hk=> ?_) b hb;refine Ia (λa=>Ki a (2^k)) (λa=>mul a (2^k)) (λx y=>by simp only [Ki,adH,Xn,adI]) (λx y=>mul_left x y _) (λj hj=> ?_) a ha;have H: ∀k,k<8-> ∀j,j<8->Ki (2^j) (2^k)=mul (2^j) (2^k):=by decide+kernel
 exact H k hk j hj
theorem aju (a b:Nat) (ha:a<256) (hb:b<256):fin (red (Cg a b 8) 7) 8=mul a b:=(alC a b).trans (alF a b ha hb)
theorem bt_le (a i:Nat):bt a i<=1:=by unfold bt;omega
theorem acI (a b i k:Nat):bt a i*bt b k<=1:=Nat.mul_le_mul (bt_le a i) (bt_le b k)
theorem QS (P:Nat->Nat) (j v n:Nat) (h: ∀i,P i<=n) (hv:v<=1): ∀i,up P j v i<=n+1:=by
 intro i;have:=h i;unfold up;split<;>omega
theorem WH (P:Nat->Nat) (a b i n:Nat) (h: ∀i,P i<=n): ∀k j,MI P a b i k j<=n+k
 |0=>h
 |k+1=>QS _ _ _ _ (WH P a b i n h k) (acI a b i k)
theorem WG (a b:Nat): ∀i j,Cg a b i j<=8*i
 |0=>λ_=>Nat.le_refl _
 |i+1=>WH _ _ _ _ _ (WG a b i) 8
theorem alG (Q:Nat->Nat) (i n:Nat) (h: ∀i,Q i<=n): ∀j,MH Q i j<=n+4:=by
 unfold MH;split
 ·exact QS _ _ _ _ (QS _ _ _ _ (QS _ _ _ _ (QS _ _ _ _ h (Nat.le_refl 1)) (Nat.le_refl 1)) (Nat.le_refl 1)) (Nat.le_refl 1)
 ·intro j;have:=h j;omega
theorem acJ (P:Nat->Nat) (m:Nat) (h: ∀i,P i<=m): ∀n j,red P n j<=m+4*n
 |0=>h
 |n+1=>alG _ _ _ (acJ P m h n)
end
section
open Go.RowKit
theorem yl {k:IntKind} {a b:Int} (h:a=b):Ending.returned (.int k a)= .returned (.int k b):=by rw [h]
theorem BG {k:IntKind} {a b:Int} (h:a=b):Value.int k a= .int k b:=by rw [h]
theorem mo (a b:Nat) (ha:a<256) (hb:b<256):bits .xor .u8 (a:Int) (b:Int)=((a^^^b:Nat):Int):=QN .u8 8 (by decide) wraps_u8 a b ha hb
end
section
def QT:List Nat:= [
 99,124,119,123,242,107,111,197,48,1,103,43,254,215,171,118,
 202,130,201,125,250,89,71,240,173,212,162,175,156,164,114,192,
 183,253,147,38,54,63,247,204,52,165,229,241,113,216,49,21,
 4,199,35,195,24,150,5,154,7,18,128,226,235,39,178,117,
 9,131,44,26,27,110,90,160,82,59,214,179,41,227,47,132,
 83,209,0,237,32,252,177,91,106,203,190,57,74,76,88,207,
 208,239,170,251,67,77,51,133,69,249,2,127,80,60,159,168,
 81,163,64,143,146,157,56,245,188,182,218,33,16,255,243,210,
 205,12,19,236,95,151,68,23,196,167,126,61,100,93,25,115,
 96,129,79,220,34,42,144,136,70,238,184,20,222,94,11,219,
 224,50,58,10,73,6,36,92,194,211,172,98,145,149,228,121,
 231,200,55,109,141,213,78,169,108,86,244,234,101,122,174,8,
 186,120,37,46,28,166,180,198,232,221,116,31,75,189,139,138,
 112,62,181,102,72,3,246,14,97,53,87,185,134,193,29,158,
 225,248,152,17,105,217,142,148,155,30,135,233,206,85,40,223,
 140,161,137,13,191,230,66,104,65,153,45,15,176,84,187,22]
def sb (b:Nat):Nat:=QT.getD b 0
theorem adJ:QT.length=256:=by decide+kernel
theorem alH (b:Nat) (h:b<256):QT[b]?=some (sb b):=by
 rw [sb,List.getD_eq_getElem?_getD,List.getElem?_eq_getElem (by rw [adJ];exact h)];rfl
theorem vH (b:Nat):sb b<256:=by
 rcases Nat.lt_or_ge b 256 with h|h
 ·have H: ∀b,b<256->sb b<256:=by decide+kernel
  exact H b h
 ·rw [sb,List.getD_eq_getElem?_getD,List.getElem?_eq_none (by rw [adJ];exact h)];decide
def rl (b n:Nat):Nat:=(b*2^n%256)|||(b/2^(8-n))
def adK (b:Nat):Nat->Nat
 |0=>99^^^b
 |n+1=>adK b n^^^rl b (n+1)
def oN (b:Nat):Nat:=adK b 4
theorem ag4 (b:Nat) (h:b<256):oN b<256:=by
 have H: ∀b,b<256->oN b<256:=by decide+kernel
 exact H b h
def cnt (b i:Nat):Nat->Nat
 |0=>99/2^i%2+b/2^i%2
 |k+1=>cnt b i k+b/2^((i+(4+k))%8)%2
def zb (b:Nat):Nat->Nat
 |0=>0
 |i+1=>zb b i+cnt b i 4%2*2^i
theorem ag3 (b:Nat) (h:b<256):zb b 8=oN b:=by
 have H: ∀b,b<256->zb b 8=oN b:=by decide+kernel
 exact H b h
theorem aa7 (b:Nat): ∀i,zb b i<2^i
 |0=>by simp [zb]
 |i+1=>by
  have:=aa7 b i;have h1:cnt b i 4%2*2^i<=1*2^i:=Nat.mul_le_mul_right _ (by omega);unfold zb;rw [Nat.pow_succ];omega
theorem aa6 (b i:Nat): ∀k,cnt b i k<=2+k
 |0=>by unfold cnt;omega
 |k+1=>by have:=aa6 b i k;unfold cnt;omega
theorem alI (b:Nat) (h:b<256):sb b=oN (inv b):=by
 have H: ∀b,b<256->sb b=oN (chain b):=by decide+kernel
 rw [adz b h];exact H b h
theorem alJ:oN 0=99:=by decide+kernel
theorem alK:sb 0=99:=by decide+kernel
def bk (b:Nat):Nat:=QT.idxOf b
theorem Vo (b:Nat) (h:b<256):sb (bk b)=b:=by
 have H: ∀b,b<256->sb (bk b)=b:=by decide+kernel
 exact H b h
theorem Jg (b:Nat) (h:b<256):bk b<256:=by
 have H: ∀b,b<256->bk b<256:=by decide+kernel
 exact H b h
theorem Vn (b:Nat) (h:b<256):bk (sb b)=b:=by
 have H: ∀b,b<256->bk (sb b)=b:=by decide+kernel
 exact H b h
def p3:Nat->Nat
 |0=>1
 |n+1=>mul (p3 n) 3
theorem Jk: ∀n,p3 n<256
 |0=>by decide
 |n+1=>mul_lt _ _ (Jk n)
theorem QU: ∀n,p3 n=dI 3 n
 |0=>rfl
 |n+1=>by rw [p3,QU n];rfl
theorem alL:p3 255=1:=by rw [QU];exact alz 3 (by omega) (by omega)
theorem alM (i:Nat) (h:i<=255):inv (p3 i)=p3 (255-i):=by
 refine(aly _ _ (Jk i) (Jk _) ?_).symm;rw [QU,QU,<-Nb 3 _ (by omega),show i+(255-i)=255 by omega,<-QU,alL]
theorem alN (i:Nat) (h:i<=255):oN (p3 (255-i))=sb (p3 i):=by
 rw [<-alM i h,<-alI _ (Jk i)]
def Nf (x:Nat):Nat->List Nat
 |0=> []
 |n+1=>x::Nf (mul x 3) n
theorem adL: ∀n i k,k<n->(Nf (p3 i) n)[k]?=some (p3 (i+k))
 |0,_,_,h=>absurd h (Nat.not_lt_zero _)
 |n+1,i,0,_=>rfl
 |n+1,i,k+1,h=>by
  rw [Nf,List.getElem?_cons_succ,show mul (p3 i) 3=p3 (i+1)from rfl,adL n (i+1) k (by omega)];congr 2;omega
theorem adM (x:Nat): ∀n,(Nf x n).length=n:=by
 intro n
 induction n generalizing x with
 |zero=>rfl
 |succ n ih=>rw [Nf,List.length_cons,ih]
theorem alO (j:Nat) (h:j<256) (h0:j≠0): ∃i,i<255/\p3 i=j:=by
 have H: ∀j,j<256->j≠0->(Nf 1 255).contains j=true:=by decide+kernel
 have h1:=H j h h0;rw [List.contains_iff_mem]at h1;obtain⟨i,hi,e⟩:=List.mem_iff_getElem.1 h1;rw [adM]at hi;refine⟨i,hi,?_⟩;have h2:=adL 255 0 i hi;rw [show p3 0=1 from rfl,List.getElem?_eq_getElem (by rw [adM];exact hi),e,Nat.zero_add]at h2;exact(Option.some.inj h2).symm
def tb:Nat->Nat->Nat
 |0=>λj=>if j=0 then oN 0 else 0
 |i+1=>λj=>if j=p3 i then oN (p3 (255-i))else tb i j
theorem adN: ∀i,i<=255-> ∀j,(j=0\/ ∃k,k<i/\p3 k=j)->tb i j=sb j
 |0,_,j,h=>by
  rcases h with rfl|⟨k,hk,_⟩
  ·show(if 0=0 then oN 0 else 0)=sb 0;rw [if_pos rfl,alJ,alK]
  ·omega
 |i+1,hi,j,h=>by
  rw [tb];dsimp only;by_cases e:j=p3 i
  ·rw [if_pos e,alN i (by omega),e]
  ·rw [if_neg e];refine adN i (by omega) j ?_;rcases h with h|⟨k,hk,hj⟩
   ·exact .inl h
   ·refine .inr ⟨k,?_,hj⟩;rcases Nat.lt_or_ge k i with h1|h1
    ·exact h1
    ·obtain rfl:k=i:=by omega
     exact absurd hj.symm e
theorem ag7 (j:Nat) (h:j<256):tb 255 j=sb j:=by
 refine adN 255 (Nat.le_refl _) j ?_;by_cases h0:j=0
 ·exact .inl h0
 ·exact .inr (alO j h h0)
def wb (x k:Nat):Nat:=x/256^(3-k)%256
def Ae (x:Nat):Nat:=((sb (wb x 0)*256+sb (wb x 1))*256+sb (wb x 2))*256+sb (wb x 3)
def wX (x:Nat):Nat:=x*256%4294967296+x/16777216
def qJ (x:Nat):Nat->Nat
 |0=>x
 |n+1=>wX (qJ x n)
def Ad (x:Nat):Nat->Nat
 |0=>0
 |n+1=>Ad x n*256+sb (wb x n)
theorem adO (x:Nat) (h:x<4294967296):wX x<4294967296:=by unfold wX;omega
theorem agW (x:Nat) (h:x<4294967296):x*256%4294967296|||x/16777216=wX x:=by
 have e:x*256%4294967296=2^8*(x%16777216):=by omega
 rw [wX,e,Nat.two_pow_add_eq_or_of_lt (show x/16777216<2^8 by omega)]
theorem aa5 (x:Nat) (h:x<4294967296): ∀n,qJ x n<4294967296
 |0=>h
 |n+1=>adO _ (aa5 x h n)
theorem alP (x:Nat) (h:x<4294967296): ∃a b c d,a<256/\b<256/\c<256/\d<256/\x=((a*256+b)*256+c)*256+d:=
 ⟨x/16777216,x/65536%256,x/256%256,x%256,by omega,by omega,by omega,by omega,by omega⟩
theorem adP (a b c d:Nat) (ha:a<256) (hb:b<256) (hc:c<256) (hd:d<256):
  wb (((a*256+b)*256+c)*256+d) 0=a/\wb (((a*256+b)*256+c)*256+d) 1=b/\wb (((a*256+b)*256+c)*256+d) 2=c/\wb (((a*256+b)*256+c)*256+d) 3=d:=by
 refine⟨?_,?_,?_,?_⟩<;>simp only [wb,Nat.reduceSub,Nat.reducePow]<;>omega
theorem Cv (a b c d:Nat) (ha:a<256) (hb:b<256) (hc:c<256) (hd:d<256):
  wX (((a*256+b)*256+c)*256+d)=((b*256+c)*256+d)*256+a:=by
 unfold wX;omega
theorem agY (x:Nat) (h:x<4294967296) (n:Nat) (hn:n<4):qJ x (n+1)%256=wb x n:=by
 obtain⟨a,b,c,d,ha,hb,hc,hd,rfl⟩:=alP x h;obtain⟨e0,e1,e2,e3⟩:=adP a b c d ha hb hc hd;rcases(show n=0\/n=1\/n=2\/n=3 by omega)with rfl|rfl|rfl|rfl
 ·rw [e0,qJ,qJ,Cv a b c d ha hb hc hd];omega
 ·rw [e1,qJ,qJ,qJ,Cv a b c d ha hb hc hd,Cv b c d a hb hc hd ha];omega
 ·rw [e2,qJ,qJ,qJ,qJ,Cv a b c d ha hb hc hd,Cv b c d a hb hc hd ha,Cv c d a b hc hd ha hb];omega
 ·rw [e3,qJ,qJ,qJ,qJ,qJ,Cv a b c d ha hb hc hd,Cv b c d a hb hc hd ha,Cv c d a b hc hd ha hb,Cv d a b c hd ha hb hc];omega
theorem aa3 (x:Nat): ∀n,Ad x n<256^n
 |0=>by simp [Ad]
 |n+1=>by
  have:=aa3 x n;have h2:=vH (wb x n);rw [Ad,Nat.pow_succ];omega
theorem agZ (x:Nat):Ad x 4=Ae x:=by simp [Ad,Ae]
theorem adQ (x:Nat):Ae x<4294967296:=by
 have h0:=vH (wb x 0);have h1:=vH (wb x 1);have h2:=vH (wb x 2);have h3:=vH (wb x 3);unfold Ae;omega
end
section
open Go.RowKit
def n8 (x:Nat):Value:= .int .u8 (x:Int)
def ae (n:Nat) (f:Nat->Nat):List Value:=(List.range n).map λj=>n8 (f j)
theorem bz (n:Nat) (f:Nat->Nat):(ae n f).length=n:=by simp [ae]
theorem oG (n:Nat) (f:Nat->Nat) (j:Nat) (h:j<n):(ae n f)[j]?=some (n8 (f j)):=by
 simp [ae,List.getElem?_map,List.getElem?_range h]
theorem xM {n:Nat} {f:Nat->Nat} {j:Nat} {v:Value} (h:(ae n f)[j]?=some v):j<n/\v=n8 (f j):=by
 rcases Nat.lt_or_ge j n with h1|h1
 ·rw [oG n f j h1]at h;exact⟨h1,(Option.some.inj h).symm⟩
 ·rw [List.getElem?_eq_none (by rw [bz];exact h1)]at h;cases h
theorem mh {n:Nat} {f g:Nat->Nat} (h: ∀j,j<n->f j=g j):ae n f=ae n g:=by
 unfold ae;apply List.map_congr_left;intro j hj;rw [h j (List.mem_range.1 hj)]
theorem dz (n:Nat) (f:Nat->Nat): ∀v∈ae n f,v.oneCell'=true:=by
 intro v hv;obtain⟨x,_,rfl⟩:=List.mem_map.1 hv;rfl
def Ar (w:World) (g n:Nat) (f:Nat->Nat):Prop:= ∀j,j<n->w.cell? ⟨g,j,none⟩=some (.int .u8 (f j:Nat))/\w.frozen? ⟨g,j,none⟩=false
section
variable {w w':World} {g n:Nat} {f:Nat->Nat}
theorem Ar.lt (h:Ar w g n f) (hn:0<n):g<w.heap.size:=by
 have h1:=(h 0 hn).1;rcases Nat.lt_or_ge g w.heap.size with h2|h2
 ·exact h2
 ·simp [World.cell?,Array.getElem?_eq_none h2]at h1
theorem Ar.keep {B:Nat} (h:Ar w g n f) (hg:g<B) (hb:Below B w w'):Ar w' g n f:=λj hj=>
 ⟨(hb.cell (p:=⟨g,j,none⟩) hg).trans (h j hj).1,(hb.frozen (p:=⟨g,j,none⟩) hg).trans (h j hj).2⟩
theorem Ar.to (h:Ar w g n f) (hn:0<n) (hb:Below w.heap.size w w'):Ar w' g n f:=h.keep (h.lt hn) hb
theorem Ar.t (h:Ar w g n f) (hb:Below w.heap.size w w') (hn:0<n:=by omega):Ar w' g n f:=h.to hn hb
theorem bn {U V:World} {o:Obj} (he:V=U.alloc o) (h:Ar U g n f) (hn:0<n:=by omega):Ar V g n f:=by rw [he];exact h.to hn ((Below.refl _ _).alloc (Nat.le_refl _) o)
theorem Ar.drew (h:Ar w g n f):Ar w.drew g n f:=h
theorem Ar.drewN (h:Ar w g n f) (k:Nat):Ar (w.drewN k) g n f:=h
theorem Ar.alloc (h:Ar w g n f) (hn:0<n) (o:Obj):Ar (w.alloc o) g n f:=h.to hn ((Below.refl _ _).alloc (Nat.le_refl _) o)
theorem Ar.ext {f':Nat->Nat} (h:Ar w g n f) (he: ∀j,j<n->f j=f' j):Ar w g n f':=λj hj=>by rw [<-he j hj];exact h j hj
theorem Ar.set (h:Ar w g n f) {j v:Nat} {x:Int} (hj:j<n) (hx:x=(v:Int)):Ar (w.setCell ⟨g,j,none⟩ (.int .u8 x)) g n (λi=>if i=j then v else f i):=by
 subst hx;intro i hi;refine⟨?_,by rw [World.frozen?_setCell];exact(h i hi).2⟩;by_cases e:i=j
 ·subst e;rw [World.cell?_setCell_same _ _ _ (h i hi).1];simp
 ·rw [World.cell?_setCell_other _ _ _ _ (λh=>by injection h with _ h;exact e h.symm),(h i hi).1];simp [e]
theorem Ar.far (h:Ar w g n f) {p:Addr} (hp:p.block≠g) (v:Value):Ar (w.setCell p v) g n f:=by
 intro i hi;refine⟨?_,by rw [World.frozen?_setCell];exact(h i hi).2⟩;rw [World.cell?_setCell_other _ _ _ _ (λe=>hp (by rw [e])),(h i hi).1]
theorem Ar.range (h:Ar w g n f):w.rangeAt g 0 (ae n f):=λj v hv=>by
 obtain⟨h1,rfl⟩:=xM hv;rw [Nat.zero_add];exact(h j h1).1
theorem Ar.there (h:Ar w g n f):w.there g 0 n:=λj hj=>by
 rw [Nat.zero_add,(h j hj).1];exact⟨rfl,(h j hj).2⟩
theorem Ar.whole (h:Ar w g n f) (f':Nat->Nat):Ar (w.setCells g 0 (ae n f')) g n f':=λj hj=>by
 have h1:=World.rangeAt_setCells_same w g 0 (ae n f') (by rw [bz];exact h.there) j _ (oG n f' j hj);rw [Nat.zero_add]at h1;exact⟨h1,by rw [World.frozen?_setCells];exact(h j hj).2⟩
end
theorem Ar.new (w:World) (n:Nat) (f:Nat->Nat) (t:TypeId):Ar (w.alloc (.cells (ae n f).toArray t)) w.heap.size n f:=λj hj=>by
 refine⟨?_,World.frozen?_alloc_at _ _ _ _ rfl⟩;rw [World.cell?_alloc_at _ _ _ _ rfl,List.getElem?_toArray];exact oG n f j hj
theorem xI (n:Nat):(ae n λ_=>0).toArray=Array.replicate n (.int .u8 0):=by
 apply Array.ext_getElem?;intro j;rw [List.getElem?_toArray];rcases Nat.lt_or_ge j n with h|h
 ·rw [oG _ _ _ h];simp [h,n8]
 ·rw [List.getElem?_eq_none (by rw [bz];exact h),Array.getElem?_eq_none (by simpa using h)]
theorem Below.setCells {B b:Nat} {a w:World} (h:Below B a w) (hb:B<=b) (vs:List Value): ∀o,Below B a (w.setCells b o vs):=by
 intro o
 induction vs generalizing o w with
 |nil=>exact h
 |cons v r ih=>rw [World.setCells];exact ih (h.setCell (p:=⟨b,o,none⟩) hb v) (o+1)
theorem Ar.apart {w:World} {g n b:Nat} {f:Nat->Nat} (h:Ar w g n f) (hb:g≠b) (vs:List Value): ∀o,Ar (w.setCells b o vs) g n f:=by
 intro o
 induction vs generalizing o w with
 |nil=>exact h
 |cons v r ih=>rw [World.setCells];exact ih (h.far (p:=⟨b,o,none⟩) (λe=>hb e.symm) v) (o+1)
theorem World.setCells_size (b:Nat) (vs:List Value): ∀(o:Nat) (w:World),(w.setCells b o vs).heap.size=w.heap.size:=by
 induction vs with
 |nil=>intro _ _;rfl
 |cons v r ih=>intro o w;rw [World.setCells,ih];simp [World.setCell]
section
variable {P:Program}
theorem bC {ops:Array Oper} {rest:List Oper} {op:Oper} {a:Act} {w:World} {Q:Exit->Act->World->Prop} (hgd:op.guard=none) (ty:TypeId) (x y:Operand) (ho:op.op= .store ty x y)
  (g n:Nat) (f f':Nat->Nat) (hx:a.eval x= .pointer (some ⟨g,0,none⟩)) (hy:a.eval y= .agg (ae n f').toArray)
  (hA:Ar w g n f) (hi:(P.info? ty).map (·.size)=some (ae n f').length)
  (h: ∀w',Ar w' g n f'->Below g w w'->w'.heap.size=w.heap.size->(∀g' n' wE,g'≠g->Ar w g' n' wE->Ar w' g' n' wE)->wpList P ops Q rest (a.put op.dst undef) w'):
  wpList P ops Q (op::rest) a w:=by
 refine wpList_store_mid hgd ty x y ho g 0 _ hx hy ?_ ?_ (all_oneCell_toArray (dz n f')) ?_
 ·rw [List.size_toArray,bz];exact hA.there
 ·rw [List.size_toArray];exact hi
 ·exact h _ (hA.whole f') (Below.setCells (Below.refl _ _) (Nat.le_refl _) _ _) (World.setCells_size _ _ _ _) (λg' n' wE hg' h'=>h'.apart hg' _ _)
theorem bB {ops:Array Oper} {rest:List Oper} {op:Oper} {a:Act} {w:World} {Q:Exit->Act->World->Prop} (hgd:op.guard=none) (ty:TypeId) (x:Operand) (ho:op.op= .load ty x)
  (g n:Nat) (f:Nat->Nat) {m:Nat} {e:TypeId} (hx:a.eval x= .pointer (some ⟨g,0,none⟩)) (hA:Ar w g n f)
  (hu:P.underlying ty=some (.array m e)) (hi:(P.info? ty).map (·.size)=some (ae n f).length)
  (h:wpList P ops Q rest (a.put op.dst (.agg (ae n f).toArray)) w):wpList P ops Q (op::rest) a w:=
 wpList_load_mid hgd ty x ho g 0 hx (ae n f) _ hA.range hu rfl hi h
theorem dU {fn:Func} {R:Ending->World->Prop} {a:Act} {w:World} {p:Tmp} {ty e:TypeId} {g n m:Nat} {f:Nat->Nat} (hr:fn.results= #[.cell p ty]) (hp:a.tmps.getD p undef= .pointer (some ⟨g,0,none⟩))
  (hA:Ar w g n f) (hu:P.underlying ty=some (.array m e)) (hi:(P.info? ty).map (·.size)=some (ae n f).length) (hd:a.defers= []) (hR:R (.returned (.agg (ae n f).toArray)) w):bodyPost P fn R .ret a w:=by
 refine bodyPost_ret (v:= .agg (ae n f).toArray) ?_ hd hR;have hp':a.tmps[p]?.getD undef= .pointer (some ⟨g,0,none⟩):=by simpa using hp
 simp only [results,hr];simp [hp',asAddr,run_loadVar_mid (P:=P) w g 0 ty (ae n f) _ hA.range hu rfl hi]
end
section
variable {P:Program}
end
end
section
def kt (c:Nat) (f:Nat->Nat) (k:Nat):Nat:=sb (f (12+(k+1)%4))^^^(if k=0 then c else 0)
def Uh (c:Nat) (f:Nat->Nat):Nat->Nat->Nat
 |0,k=>f k^^^kt c f k
 |i+1,k=>f (4*(i+1)+k)^^^Uh c f i k
def nx (c:Nat) (f:Nat->Nat) (j:Nat):Nat:=Uh c f (j/4) (j%4)
def rk (f:Nat->Nat):Nat->Nat->Nat
 |0=>f
 |r+1=>nx (dI 2 r) (rk f r)
def ek (f:Nat->Nat) (m:Nat):Nat:=rk f (m/16) (m%16)
theorem W9 (a b:Nat):(a^^^b)^^^b=a:=by rw [Nat.xor_assoc,Nat.xor_self,Nat.xor_zero]
theorem adR (k c:Nat) (hc:c<256):(if k=0 then c else 0)<256:=by split<;>omega
theorem alQ (c:Nat) (f:Nat->Nat) (k:Nat) (hc:c<256):kt c f k<256:=ku _ _ (vH _) (adR k c hc)
theorem adS (c:Nat) (f:Nat->Nat) (hc:c<256) (hf: ∀j,j<16->f j<256): ∀i k,i<4->k<4->Uh c f i k<256
 |0,k,_,hk=>ku _ _ (hf k (by omega)) (alQ c f k hc)
 |i+1,k,hi,hk=>ku _ _ (hf _ (by omega)) (adS c f hc hf i k (by omega) hk)
theorem Xo (c:Nat) (f:Nat->Nat) (hc:c<256) (hf: ∀j,j<16->f j<256) (j:Nat) (hj:j<16):nx c f j<256:=adS c f hc hf _ _ (by omega) (by omega)
theorem wB (f:Nat->Nat) (hf: ∀j,j<16->f j<256): ∀r j,j<16->rk f r j<256
 |0,j,hj=>hf j hj
 |r+1,j,hj=>Xo _ _ (xx 2 r) (wB f hf r) j hj
theorem Ui (f:Nat->Nat) (hf: ∀j,j<16->f j<256) (m:Nat):ek f m<256:=wB f hf _ _ (by omega)
theorem QV (c:Nat) (f:Nat->Nat) (j:Nat) (h:j<4):nx c f j=f j^^^kt c f j:=by
 unfold nx;rw [show j/4=0 by omega,show j%4=j by omega];rfl
theorem QW (c:Nat) (f:Nat->Nat) (j:Nat) (h:4<=j):nx c f j=f j^^^nx c f (j-4):=by
 unfold nx;obtain⟨i,hi⟩: ∃i,j/4=i+1:=⟨j/4-1,by omega⟩;rw [hi,show(j-4)/4=i by omega,show(j-4)%4=j%4 by omega,Uh,show 4*(i+1)+j%4=j by omega]
theorem QX (f:Nat->Nat) (m:Nat) (h:m<16):ek f m=f m:=by
 unfold ek;rw [show m/16=0 by omega,show m%16=m by omega];rfl
theorem Co (f:Nat->Nat) (r j:Nat) (h:j<16):ek f (16*r+j)=rk f r j:=by
 unfold ek;rw [show(16*r+j)/16=r by omega,show(16*r+j)%16=j by omega]
theorem alR (f:Nat->Nat) (i k:Nat) (hi:4<=i) (h4:i%4≠0) (hk:k<4):ek f (4*i+k)=ek f (4*(i-4)+k)^^^ek f (4*(i-1)+k):=by
 obtain⟨r,hr⟩: ∃r,i/4=r+1:=⟨i/4-1,by omega⟩;obtain⟨j,hj⟩: ∃j,j=4*(i%4)+k:=⟨_,rfl⟩;rw [show 4*i+k=16*(r+1)+j by omega,show 4*(i-4)+k=16*r+j by omega,show 4*(i-1)+k=16*(r+1)+(j-4)by omega,
  Co _ _ _ (by omega),Co _ _ _ (by omega),Co _ _ _ (by omega),rk,QW _ _ j (by omega)]
theorem alS (f:Nat->Nat) (i k:Nat) (hi:4<=i) (h4:i%4=0) (hk:k<4):
  ek f (4*i+k)=ek f (4*(i-4)+k)^^^(sb (ek f (4*(i-1)+(k+1)%4))^^^(if k=0 then dI 2 (i/4-1)else 0)):=by
 obtain⟨r,hr⟩: ∃r,i/4=r+1:=⟨i/4-1,by omega⟩;rw [show 4*i+k=16*(r+1)+k by omega,show 4*(i-4)+k=16*r+k by omega,show 4*(i-1)+(k+1)%4=16*r+(12+(k+1)%4)by omega,
  Co _ _ _ (by omega),Co _ _ _ (by omega),Co _ _ _ (by omega),rk,QV _ _ k hk,hr]
 rfl
end
section
def aZ (f:Nat->Nat) (j:Nat):Nat:=sb (f j)
def dX (f:Nat->Nat) (j:Nat):Nat:=bk (f j)
def bf (f:Nat->Nat) (j:Nat):Nat:=f ((j+4*(j%4))%16)
def eU (f:Nat->Nat) (j:Nat):Nat:=f ((j+16-4*(j%4))%16)
def za (a b c d:Nat) (f:Nat->Nat) (j:Nat):Nat:=
 mul a (f j)^^^mul b (f (j/4*4+(j+1)%4))^^^mul c (f (j/4*4+(j+2)%4))^^^mul d (f (j/4*4+(j+3)%4))
def dm:(Nat->Nat)->Nat->Nat:=za 2 3 1 1
def iw:(Nat->Nat)->Nat->Nat:=za 14 11 13 9
def ah (f k:Nat->Nat) (j:Nat):Nat:=f j^^^k j
def aj (f:Nat->Nat):Prop:= ∀j,j<16->f j<256
def cO (f g:Nat->Nat):Prop:= ∀j,j<16->f j=g j
theorem M0 (f:Nat->Nat):aj (aZ f):=λj _=>vH _
theorem MS {f:Nat->Nat} (h:aj f):aj (dX f):=λj hj=>Jg _ (h j hj)
theorem Cn {f:Nat->Nat} (h:aj f):aj (bf f):=λj hj=>h _ (by omega)
theorem AB {f:Nat->Nat} (h:aj f):aj (eU f):=λj hj=>h _ (by omega)
theorem adT (a b c d:Nat) (ha:a<256) (hb:b<256) (hc:c<256) (hd:d<256) (f:Nat->Nat):aj (za a b c d f):=λj hj=>
 ku _ _ (ku _ _ (ku _ _ (mul_lt _ _ ha) (mul_lt _ _ hb)) (mul_lt _ _ hc)) (mul_lt _ _ hd)
theorem dL {f k:Nat->Nat} (h:aj f) (hk:aj k):aj (ah f k):=λj hj=>ku _ _ (h j hj) (hk j hj)
theorem pI {f g:Nat->Nat} (h:cO f g):cO (aZ f) (aZ g):=λj hj=>by unfold aZ;rw [h j hj]
theorem Ng {f g:Nat->Nat} (h:cO f g):cO (dX f) (dX g):=λj hj=>by unfold dX;rw [h j hj]
theorem nL {f g:Nat->Nat} (h:cO f g):cO (bf f) (bf g):=λj hj=>h _ (by omega)
theorem Uj {f g:Nat->Nat} (h:cO f g):cO (eU f) (eU g):=λj hj=>h _ (by omega)
theorem nK (a b c d:Nat) {f g:Nat->Nat} (h:cO f g):cO (za a b c d f) (za a b c d g):=λj hj=>by
 unfold za;rw [h j hj,h _ (by omega),h _ (by omega),h (j/4*4+(j+3)%4) (by omega)]
theorem iU {f g k l:Nat->Nat} (h:cO f g) (hk:cO k l):cO (ah f k) (ah g l):=λj hj=>by unfold ah;rw [h j hj,hk j hj]
theorem adU {f:Nat->Nat} (h:aj f):cO (dX (aZ f)) f:=λj hj=>Vn _ (h j hj)
theorem adV {f:Nat->Nat} (h:aj f):cO (aZ (dX f)) f:=λj hj=>Vo _ (h j hj)
theorem adW (f:Nat->Nat):cO (eU (bf f)) f:=λj hj=>by unfold eU bf;congr 1;omega
theorem adX (f:Nat->Nat):cO (bf (eU f)) f:=λj hj=>by
 show f (((j+4*(j%4))%16+16-4*((j+4*(j%4))%16%4))%16)=f j
 congr 1;omega
theorem D8 (f k:Nat->Nat):cO (ah (ah f k) k) f:=λj hj=>W9 _ _
theorem alT: ∀k,k<8->((mul 14 (mul 2 (2^k))^^^mul 11 (mul 1 (2^k)))^^^mul 13 (mul 1 (2^k)))^^^mul 9 (mul 3 (2^k))=2^k:=by decide+kernel
theorem alU: ∀k,k<8->((mul 14 (mul 3 (2^k))^^^mul 11 (mul 2 (2^k)))^^^mul 13 (mul 1 (2^k)))^^^mul 9 (mul 1 (2^k))=0:=by decide+kernel
theorem alV: ∀k,k<8->((mul 14 (mul 1 (2^k))^^^mul 11 (mul 3 (2^k)))^^^mul 13 (mul 2 (2^k)))^^^mul 9 (mul 1 (2^k))=0:=by decide+kernel
theorem alW: ∀k,k<8->((mul 14 (mul 1 (2^k))^^^mul 11 (mul 1 (2^k)))^^^mul 13 (mul 3 (2^k)))^^^mul 9 (mul 2 (2^k))=0:=by decide+kernel
theorem alX: ∀k,k<8->((mul 2 (mul 14 (2^k))^^^mul 3 (mul 9 (2^k)))^^^mul 1 (mul 13 (2^k)))^^^mul 1 (mul 11 (2^k))=2^k:=by decide+kernel
theorem alY: ∀k,k<8->((mul 2 (mul 11 (2^k))^^^mul 3 (mul 14 (2^k)))^^^mul 1 (mul 9 (2^k)))^^^mul 1 (mul 13 (2^k))=0:=by decide+kernel
theorem alZ: ∀k,k<8->((mul 2 (mul 13 (2^k))^^^mul 3 (mul 11 (2^k)))^^^mul 1 (mul 14 (2^k)))^^^mul 1 (mul 9 (2^k))=0:=by decide+kernel
theorem al0: ∀k,k<8->((mul 2 (mul 9 (2^k))^^^mul 3 (mul 13 (2^k)))^^^mul 1 (mul 11 (2^k)))^^^mul 1 (mul 14 (2^k))=0:=by decide+kernel
theorem Ib (a b c d p q r s:Nat) (z:Nat->Nat) (hz: ∀x y,z (x^^^y)=z x^^^z y)
  (h: ∀k,k<8->((mul a (mul p (2^k))^^^mul b (mul q (2^k)))^^^mul c (mul r (2^k)))^^^mul d (mul s (2^k))=z (2^k)) (x:Nat) (hx:x<256):
  ((mul a (mul p x)^^^mul b (mul q x))^^^mul c (mul r x))^^^mul d (mul s x)=z x:=by
 refine Ia (λx=>((mul a (mul p x)^^^mul b (mul q x))^^^mul c (mul r x))^^^mul d (mul s x)) z (λx y=> ?_) hz h x hx;simp only [mul_right]
 ac_rfl
theorem adY (a b c d p q r s:Nat) (f:Nat->Nat) (j:Nat) (hj:j<16):
  za a b c d (za p q r s f) j=
   ((((mul a (mul p (f j))^^^mul b (mul s (f j)))^^^mul c (mul r (f j)))^^^mul d (mul q (f j)))
   ^^^(((mul a (mul q (f (j/4*4+(j+1)%4)))^^^mul b (mul p (f (j/4*4+(j+1)%4))))^^^mul c (mul s (f (j/4*4+(j+1)%4))))^^^mul d (mul r (f (j/4*4+(j+1)%4)))))
   ^^^((((mul a (mul r (f (j/4*4+(j+2)%4)))^^^mul b (mul q (f (j/4*4+(j+2)%4))))^^^mul c (mul p (f (j/4*4+(j+2)%4))))^^^mul d (mul s (f (j/4*4+(j+2)%4))))
   ^^^(((mul a (mul s (f (j/4*4+(j+3)%4)))^^^mul b (mul r (f (j/4*4+(j+3)%4))))^^^mul c (mul q (f (j/4*4+(j+3)%4))))^^^mul d (mul p (f (j/4*4+(j+3)%4))))):=by
 obtain⟨o,ho⟩: ∃o,o=j/4*4:=⟨_,rfl⟩;have XX: ∀k,(o+(j+k)%4)/4*4=o:=λk=>by omega
 have row: ∀k m,o+(o+(j+k)%4+m)%4=o+(j+(k+m))%4:=λk m=>by omega
 have r4:o+(j+4)%4=j:=by omega
 have r5:o+(j+5)%4=o+(j+1)%4:=by omega
 have r6:o+(j+6)%4=o+(j+2)%4:=by omega
 unfold za;simp only [<-ho,XX,row,mul_right];simp only [Nat.reduceAdd,r4,r5,r6]
 ac_rfl
theorem al1 {f:Nat->Nat} (h:aj f):cO (iw (dm f)) f:=λj hj=>by
 unfold iw dm;rw [adY _ _ _ _ _ _ _ _ f j hj];rw [Ib 14 11 13 9 2 1 1 3 (λx=>x) (λ_ _=>rfl) alT _ (h j hj),Ib 14 11 13 9 3 2 1 1 (λ_=>0) (λ_ _=>rfl) alU _ (h _ (by omega)),
  Ib 14 11 13 9 1 3 2 1 (λ_=>0) (λ_ _=>rfl) alV _ (h _ (by omega)),Ib 14 11 13 9 1 1 3 2 (λ_=>0) (λ_ _=>rfl) alW _ (h _ (by omega))]
 simp
theorem al2 {f:Nat->Nat} (h:aj f):cO (dm (iw f)) f:=λj hj=>by
 unfold iw dm;rw [adY _ _ _ _ _ _ _ _ f j hj];rw [Ib 2 3 1 1 14 9 13 11 (λx=>x) (λ_ _=>rfl) alX _ (h j hj),Ib 2 3 1 1 11 14 9 13 (λ_=>0) (λ_ _=>rfl) alY _ (h _ (by omega)),
  Ib 2 3 1 1 13 11 14 9 (λ_=>0) (λ_ _=>rfl) alZ _ (h _ (by omega)),Ib 2 3 1 1 9 13 11 14 (λ_=>0) (λ_ _=>rfl) al0 _ (h _ (by omega))]
 simp
theorem Xa (f:Nat->Nat):aj (dm f):=adT _ _ _ _ (by omega) (by omega) (by omega) (by omega) f
theorem Hq (f:Nat->Nat):aj (iw f):=adT _ _ _ _ (by omega) (by omega) (by omega) (by omega) f
def bF (f b:Nat->Nat):Nat->Nat->Nat
 |0=>ah b (rk f 0)
 |r+1=>ah (if r+1<10 then dm (bf (aZ (bF f b r)))else bf (aZ (bF f b r))) (rk f (r+1))
def aJ (f b:Nat->Nat):Nat->Nat:=bF f b 10
def sV (f:Nat->Nat):Nat->(Nat->Nat)->Nat->Nat
 |0,c=>ah c (rk f 0)
 |r+1,c=>sV f r (dX (eU (if r+1<10 then iw (ah c (rk f (r+1)))else ah c (rk f (r+1)))))
def pQ (f c:Nat->Nat):Nat->Nat:=sV f 10 c
theorem fM {f b:Nat->Nat} (hf:aj f) (hb:aj b): ∀r,aj (bF f b r)
 |0=>dL hb (wB f hf 0)
 |r+1=>by
  refine dL ?_ (wB f hf (r+1));split
  ·exact Xa _
  ·exact Cn (M0 _)
theorem Oi (f:Nat->Nat) {b c:Nat->Nat} (h:cO b c): ∀r,cO (bF f b r) (bF f c r)
 |0=>iU h (λ_ _=>rfl)
 |r+1=>by
  have h1:=nL (pI (Oi f h r));intro j hj;simp only [bF];refine iU ?_ (λ_ _=>rfl) j hj;split
  ·exact nK _ _ _ _ h1
  ·exact h1
theorem TR (f:Nat->Nat): ∀r {b c:Nat->Nat},cO b c->cO (sV f r b) (sV f r c)
 |0,_,_,h=>iU h (λ_ _=>rfl)
 |r+1,b,c,h=>by
  have h1:=iU h (λj (_:j<16)=>(rfl:rk f (r+1) j=rk f (r+1) j));refine TR f r (Ng (Uj ?_));split
  ·exact nK _ _ _ _ h1
  ·exact h1
theorem acZ {f b:Nat->Nat} (hf:aj f) (hb:aj b): ∀r,cO (sV f r (bF f b r)) b
 |0=>D8 _ _
 |r+1=>by
  have hl:=fM hf hb r;intro j hj;rw [sV];refine(TR f r (b:=_) (c:=bF f b r) ?_ j hj).trans (acZ hf hb r j hj);by_cases wm:r+1<10
  ·simp only [if_pos wm,bF];refine λi hi=>(Ng (Uj (nK _ _ _ _ (D8 _ _))) i hi).trans ?_;exact((Ng (Uj (al1 (Cn (M0 _)))) i hi).trans (Ng (adW _) i hi)).trans (adU hl i hi)
  ·simp only [if_neg wm,bF];refine λi hi=>(Ng (Uj (D8 _ _)) i hi).trans ?_;exact(Ng (adW _) i hi).trans (adU hl i hi)
theorem Pb {f:Nat->Nat} (hf:aj f): ∀r {c:Nat->Nat},aj c->aj (sV f r c)
 |0,_,hc=>dL hc (wB f hf 0)
 |r+1,c,hc=>by
  refine Pb hf r (MS (AB ?_));split
  ·exact Hq _
  ·exact dL hc (wB f hf (r+1))
theorem TQ {f:Nat->Nat} (hf:aj f): ∀r {c:Nat->Nat},aj c->cO (bF f (sV f r c) r) c
 |0,c,hc=>D8 _ _
 |r+1,c,hc=>by
  by_cases wm:r+1<10
  ·have hx:aj (dX (eU (iw (ah c (rk f (r+1)))))):=MS (AB (Hq _));have ih:=TQ hf r hx;have e:bF f (sV f (r+1) c) r=bF f (sV f r (dX (eU (iw (ah c (rk f (r+1))))))) r:=(by rw [sV,if_pos wm]);have EJ:aj (ah c (rk f (r+1))):=dL hc (wB f hf (r+1));intro j hj;rw [bF,if_pos wm,e];refine(iU (nK _ _ _ _ (nL (pI ih))) (λ_ _=>rfl) j hj).trans ?_;refine(iU (nK _ _ _ _ (nL (adV (AB (Hq _))))) (λ_ _=>rfl) j hj).trans ?_;refine(iU (nK _ _ _ _ (adX _)) (λ_ _=>rfl) j hj).trans ?_;exact(iU (al2 EJ) (λ_ _=>rfl) j hj).trans (D8 _ _ j hj)
  ·have EJ:aj (ah c (rk f (r+1))):=dL hc (wB f hf (r+1));have hx:aj (dX (eU (ah c (rk f (r+1))))):=MS (AB EJ);have ih:=TQ hf r hx;have e:bF f (sV f (r+1) c) r=bF f (sV f r (dX (eU (ah c (rk f (r+1)))))) r:=(by rw [sV,if_neg wm]);intro j hj;rw [bF,if_neg wm,e];refine(iU (nL (pI ih)) (λ_ _=>rfl) j hj).trans ?_;refine(iU (nL (adV (AB EJ))) (λ_ _=>rfl) j hj).trans ?_;exact(iU (adX _) (λ_ _=>rfl) j hj).trans (D8 _ _ j hj)
def tr (f:Nat->Nat) (m:Nat):Nat:=f (4*(m%4)+m/4)
theorem TN (f:Nat->Nat) (j:Nat) (hj:j<16):tr (tr f) j=f j:=by unfold tr;congr 1;omega
theorem TM {f g:Nat->Nat} (h:cO f g):cO (tr f) (tr g):=λj hj=>h _ (by omega)
end
section
open Go.RowKit
section
variable {w w':World} {g n:Nat} {f:Nat->Nat}
theorem Ar.xB (h:Ar w g n f) (o m:Nat) (ho:o+m<=n):w.rangeAt g o (ae m λj=>f (o+j)):=λj v hv=>by
 obtain⟨h1,rfl⟩:=xM hv;exact(h (o+j) (by omega)).1
theorem Ar.adZ (h:Ar w g n f) (o m:Nat) (ho:o+m<=n):w.there g o m:=λj hj=>by
 rw [(h (o+j) (by omega)).1];exact⟨rfl,(h (o+j) (by omega)).2⟩
def LW (f f':Nat->Nat) (o m:Nat):Nat->Nat:=λi=>if o<=i/\i<o+m then f' (i-o)else f i
theorem Ar.ab4 (h:Ar w g n f) (f':Nat->Nat) (o m:Nat) (ho:o+m<=n):Ar (w.setCells g o (ae m f')) g n (LW f f' o m):=λj hj=>by
 refine⟨?_,by rw [World.frozen?_setCells];exact(h j hj).2⟩;unfold LW;by_cases hc:o<=j/\j<o+m
 ·rw [if_pos hc];have h1:=World.rangeAt_setCells_same w g o (ae m f') (by rw [bz];exact h.adZ o m ho) (j-o) _ (oG m f' (j-o) (by omega))
  rwa [show o+(j-o)=j by omega]at h1
 ·rw [if_neg hc,World.cell?_setCells_out g (ae m f') o w ⟨g,j,none⟩ (λ_ _=>by rw [bz];simp;omega)];exact(h j hj).1
end
theorem Io (F:Nat->Nat) (n m:Nat):(if m=n then F n else(if m<n then F m else 0))=if m<n+1 then F m else 0:=by
 by_cases h:m=n
 ·rw [if_pos h,if_pos (by omega),h]
 ·rw [if_neg h];by_cases h2:m<n
  ·rw [if_pos h2,if_pos (by omega)]
  ·rw [if_neg h2,if_neg (by omega)]
section
variable {P:Program}
theorem KU {fn:Func} {R:Ending->World->Prop} {a:Act} {w:World} {p q:Tmp} {ty e:TypeId} {g n m:Nat} {f:Nat->Nat} {v:Value} (hr:fn.results= #[.cell p ty,.tmp q]) (hp:a.tmps.getD p undef= .pointer (some ⟨g,0,none⟩))
  (hq:a.tmps.getD q undef=v)
  (hA:Ar w g n f) (hu:P.underlying ty=some (.array m e)) (hi:(P.info? ty).map (·.size)=some (ae n f).length) (hd:a.defers= []) (hR:R (.returned (.tuple #[.agg (ae n f).toArray,v])) w):bodyPost P fn R .ret a w:=by
 refine bodyPost_ret (v:= .tuple #[.agg (ae n f).toArray,v]) ?_ hd hR;have hp':a.tmps[p]?.getD undef= .pointer (some ⟨g,0,none⟩):=by simpa using hp
 have hq':a.tmps[q]?.getD undef=v:=by simpa using hq
 simp only [results,hr];simp [hp',hq',asAddr,run_loadVar_mid (P:=P) w g 0 ty (ae n f) _ hA.range hu rfl hi]
theorem al3 (N o m:Nat) (f:Nat->Nat) (h:o+m<=N):(ae N f).toArray.extract o (o+m)=(ae m λj=>f (o+j)).toArray:=by
 have hl:(ae N f).toArray.size=N:=by rw [List.size_toArray,bz]
 apply Array.ext_getElem?;intro j;rcases Nat.lt_or_ge j m with h1|h1
 ·have e1:(ae m λj=>f (o+j)).toArray[j]?=some (n8 (f (o+j))):=by rw [List.getElem?_toArray];exact oG m _ j h1
  have e2:(ae N f).toArray[o+j]?=some (n8 (f (o+j))):=by rw [List.getElem?_toArray];exact oG N f (o+j) (by omega)
  rw [e1,Array.getElem?_extract,if_pos (by rw [hl];omega),e2]
 ·rw [Array.getElem?_eq_none (by rw [Array.size_extract,hl];omega),Array.getElem?_eq_none (by rw [List.size_toArray,bz];omega)]
theorem al4 {t e e':TypeId} {n k m:Nat} (hu:P.underlying t=some (.array n e)) (he:P.underlying e=some (.array k e')) (hs:(P.info? e).map (·.size)=some m)
  (f:Nat->Nat) (N i:Nat) (hi:i<n) (hN:i*m+m<=N) (w:World):(Instr.index t (.agg (ae N f).toArray) (.int .i64 i)).run P w= .ok (.agg (ae m λj=>f (i*m+j)).toArray) w:=by
 cases hq:P.info? e with
 |none=>simp [hq]at hs
 |some q=>
  have cB:q.size=m:=by simpa [hq]using hs
  have hagg:(isAgg e).run P w= .ok true w:=by
   unfold isAgg;rw [Sem.run_bind,run_underlying he w];rfl
  have hx:=al3 N (i*m) m f hN;simp at hx;simp [Instr.index,run_underlying hu,asIntOf,sizeOf,typeInfo,hq,cB,part,hagg,hi,hx]
theorem oH {ops:Array Oper} {rest:List Oper} {op:Oper} {a:Act} {w:World} {Q:Exit->Act->World->Prop} (hgd:op.guard=none) (ty:TypeId) (parts:Array (Nat×Operand)) (ho:op.op= .build ty parts)
  (ps:List (Nat×Value)) (hps:parts.toList.map (λp=>(p.1,a.eval p.2))=ps) (cells:Array Value) (hb:(Instr.build ty ps.toArray).run P w= .ok (.agg cells) w)
  (h:wpList P ops Q rest (a.put op.dst (.agg cells)) w):wpList P ops Q (op::rest) a w:=
 wpList_plain hgd λ_ hK=>by
  have e:(parts.map fun(i,x)=>(i,a.eval x))=ps.toArray:=by rw [<-hps];apply Array.toList_inj.1;simp
  unfold Oper.wp execOp;simp only [ho,e,Sem.run_bind,hb,Result.andThen_ok];exact hK _ _ h
theorem TP {ops:Array Oper} {rest:List Oper} {op:Oper} {a:Act} {w:World} {Q:Exit->Act->World->Prop} (hgd:op.guard=none) (ty:TypeId) (x:Operand) (ho:op.op= .load ty x)
  (g n o m:Nat) (f:Nat->Nat) {k:Nat} {e:TypeId} (hx:a.eval x= .pointer (some ⟨g,o,none⟩)) (hA:Ar w g n f) (XW:o+m<=n)
  (hu:P.underlying ty=some (.array k e)) (hi:(P.info? ty).map (·.size)=some (ae m λj=>f (o+j)).length)
  (h:wpList P ops Q rest (a.put op.dst (.agg (ae m λj=>f (o+j)).toArray)) w):wpList P ops Q (op::rest) a w:=
 wpList_load_mid hgd ty x ho g o hx (ae m λj=>f (o+j)) _ (hA.xB o m XW) hu rfl hi h
theorem al5 {ops:Array Oper} {rest:List Oper} {op:Oper} {a:Act} {w:World} {Q:Exit->Act->World->Prop} (hgd:op.guard=none) (ty:TypeId) (x y:Operand) (ho:op.op= .store ty x y)
  (g n o m:Nat) (f f':Nat->Nat) (hx:a.eval x= .pointer (some ⟨g,o,none⟩)) (hy:a.eval y= .agg (ae m f').toArray)
  (hA:Ar w g n f) (XW:o+m<=n) (hi:(P.info? ty).map (·.size)=some (ae m f').length)
  (h: ∀w',Ar w' g n (LW f f' o m)->Below g w w'->w'.heap.size=w.heap.size->(∀g' n' wE,g'≠g->Ar w g' n' wE->Ar w' g' n' wE)->wpList P ops Q rest (a.put op.dst undef) w'):
  wpList P ops Q (op::rest) a w:=by
 refine wpList_store_mid hgd ty x y ho g o _ hx hy ?_ ?_ (all_oneCell_toArray (dz m f')) ?_
 ·rw [List.size_toArray,bz];exact hA.adZ o m XW
 ·rw [List.size_toArray];exact hi
 ·exact h _ (hA.ab4 f' o m XW) (Below.setCells (Below.refl _ _) (Nat.le_refl _) _ _) (World.setCells_size _ _ _ _) (λg' n' wE hg' h'=>h'.apart hg' _ _)
end
end
section
def jd (a b c d:Nat):Nat:=((a*256+b)*256+c)*256+d
theorem Xp {a b c d:Nat} (ha:a<256) (hb:b<256) (hc:c<256) (hd:d<256):jd a b c d<4294967296:=by unfold jd;omega
theorem Xq (x y b d:Nat) (hb:b<256) (hd:d<256):(x*256+b)^^^(y*256+d)=(x^^^y)*256+(b^^^d):=by
 have hx:=ku b d hb hd;apply Nat.eq_of_testBit_eq;intro i;rw [Nat.testBit_xor,show x*256+b=2^8*x+b by omega,show y*256+d=2^8*y+d by omega,show(x^^^y)*256+(b^^^d)=2^8*(x^^^y)+(b^^^d)by omega,
  Nat.testBit_two_pow_mul_add _ (show b<2^8 from hb),Nat.testBit_two_pow_mul_add _ (show d<2^8 from hd),Nat.testBit_two_pow_mul_add _ (show(b^^^d)<2^8 from hx)]
 split<;>rw [Nat.testBit_xor]
theorem Kj {a b c d a' b' c' d':Nat} (hb:b<256) (hc:c<256) (hd:d<256) (hb':b'<256) (hc':c'<256) (hd':d'<256):
  jd a b c d^^^jd a' b' c' d'=jd (a^^^a') (b^^^b') (c^^^c') (d^^^d'):=by
 unfold jd;rw [Xq _ _ _ _ hd hd',Xq _ _ _ _ hc hc',Xq _ _ _ _ hb hb']
def wd (f:Nat->Nat) (i:Nat):Nat:=jd (f (4*i)) (f (4*i+1)) (f (4*i+2)) (f (4*i+3))
theorem p8 (f:Nat->Nat) (i:Nat) (hf: ∀j,j<16->f j<256) (hi:i<4):wd f i<4294967296:=Xp (hf _ (by omega)) (hf _ (by omega)) (hf _ (by omega)) (hf _ (by omega))
theorem ad1 {a b c d:Nat} (ha:a<256) (hb:b<256) (hc:c<256) (hd:d<256):wb (jd a b c d) 0=a/\wb (jd a b c d) 1=b/\wb (jd a b c d) 2=c/\wb (jd a b c d) 3=d:=adP a b c d ha hb hc hd
theorem oF (f:Nat->Nat) (i k:Nat) (hf: ∀j,j<16->f j<256) (hi:i<4) (hk:k<4):wb (wd f i) k=f (4*i+k):=by
 obtain⟨e0,e1,e2,e3⟩:=ad1 (hf (4*i) (by omega)) (hf (4*i+1) (by omega)) (hf (4*i+2) (by omega)) (hf (4*i+3) (by omega));unfold wd;rcases(show k=0\/k=1\/k=2\/k=3 by omega)with rfl|rfl|rfl|rfl
 ·exact e0
 ·exact e1
 ·exact e2
 ·exact e3
def Ed (x c:Nat):Nat:=Ae (wX x)^^^(c*16777216)
theorem al6 {a b c d k:Nat} (ha:a<256) (hb:b<256) (hc:c<256) (hd:d<256):Ed (jd a b c d) k=jd (sb b^^^k) (sb c) (sb d) (sb a):=by
 have e:wX (jd a b c d)=jd b c d a:=Cv a b c d ha hb hc hd;obtain⟨e0,e1,e2,e3⟩:=ad1 hb hc hd ha;have e4:Ae (jd b c d a)=jd (sb b) (sb c) (sb d) (sb a):=by unfold Ae;rw [e0,e1,e2,e3];rfl
 rw [Ed,e,e4,show k*16777216=jd k 0 0 0 by unfold jd;omega,Kj (vH _) (vH _) (vH _) (by omega) (by omega) (by omega)];simp
theorem al7 (x c:Nat) (hc:c<256):Ed x c<4294967296:=Nat.xor_lt_two_pow (n:=32) (adQ _) (show c*16777216<2^32 by omega)
theorem al8 (c:Nat) (f:Nat->Nat) (hc:c<256) (hf: ∀j,j<16->f j<256):wd f 0^^^Ed (wd f 3) c=wd (nx c f) 0:=by
 have l:=vH;have e:Ed (wd f 3) c=jd (sb (f 13)^^^c) (sb (f 14)) (sb (f 15)) (sb (f 12)):=al6 (hf 12 (by omega)) (hf 13 (by omega)) (hf 14 (by omega)) (hf 15 (by omega));rw [e]
 show jd (f 0) (f 1) (f 2) (f 3)^^^_=jd (nx c f 0) (nx c f 1) (nx c f 2) (nx c f 3)
 rw [Kj (hf 1 (by omega)) (hf 2 (by omega)) (hf 3 (by omega)) (l _) (l _) (l _),QV c f 0 (by omega),QV c f 1 (by omega),QV c f 2 (by omega),QV c f 3 (by omega)];simp [kt]
theorem Xr (c:Nat) (f:Nat->Nat) (i:Nat) (hi:i<3) (hc:c<256) (hf: ∀j,j<16->f j<256):wd f (i+1)^^^wd (nx c f) i=wd (nx c f) (i+1):=by
 have hn:=Xo c f hc hf;unfold wd;rw [Kj (hf _ (by omega)) (hf _ (by omega)) (hf _ (by omega)) (hn _ (by omega)) (hn _ (by omega)) (hn _ (by omega)),
  QW c f (4*(i+1)) (by omega),QW c f (4*(i+1)+1) (by omega),QW c f (4*(i+1)+2) (by omega),QW c f (4*(i+1)+3) (by omega)]
 rw [show 4*(i+1)-4=4*i by omega,show 4*(i+1)+1-4=4*i+1 by omega,show 4*(i+1)+2-4=4*i+2 by omega,show 4*(i+1)+3-4=4*i+3 by omega]
def jn (W:Nat->Nat) (j:Nat):Nat:=wb (W (j/4)) (j%4)
theorem ad2 (f:Nat->Nat) (hf: ∀j,j<16->f j<256) (j:Nat) (hj:j<16):jn (wd f) j=f j:=by
 rw [jn,oF f _ _ hf (by omega) (by omega)];congr 1;omega
end
section
open Go.RowKit
def w32 (x:Nat):Value:= .int .u32 (x:Int)
def dA (n:Nat) (f:Nat->Nat):List Value:=(List.range n).map λj=>w32 (f j)
theorem Ic (n:Nat) (f:Nat->Nat):(dA n f).length=n:=by simp [dA]
theorem Ie (n:Nat) (f:Nat->Nat) (j:Nat) (h:j<n):(dA n f)[j]?=some (w32 (f j)):=by
 simp [dA,List.getElem?_map,List.getElem?_range h]
theorem ad3 {n:Nat} {f:Nat->Nat} {j:Nat} {v:Value} (h:(dA n f)[j]?=some v):j<n/\v=w32 (f j):=by
 rcases Nat.lt_or_ge j n with h1|h1
 ·rw [Ie n f j h1]at h;exact⟨h1,(Option.some.inj h).symm⟩
 ·rw [List.getElem?_eq_none (by rw [Ic];exact h1)]at h;cases h
theorem Ig (n:Nat) (f:Nat->Nat): ∀v∈dA n f,v.oneCell'=true:=by
 intro v hv;obtain⟨x,_,rfl⟩:=List.mem_map.1 hv;rfl
def Aw (w:World) (g n:Nat) (f:Nat->Nat):Prop:= ∀j,j<n->w.cell? ⟨g,j,none⟩=some (.int .u32 (f j:Nat))/\w.frozen? ⟨g,j,none⟩=false
section
variable {w w':World} {g n:Nat} {f:Nat->Nat}
theorem Aw.lt (h:Aw w g n f) (hn:0<n):g<w.heap.size:=by
 have h1:=(h 0 hn).1;rcases Nat.lt_or_ge g w.heap.size with h2|h2
 ·exact h2
 ·simp [World.cell?,Array.getElem?_eq_none h2]at h1
theorem Aw.keep {B:Nat} (h:Aw w g n f) (hg:g<B) (hb:Below B w w'):Aw w' g n f:=λj hj=>
 ⟨(hb.cell (p:=⟨g,j,none⟩) hg).trans (h j hj).1,(hb.frozen (p:=⟨g,j,none⟩) hg).trans (h j hj).2⟩
theorem Aw.to (h:Aw w g n f) (hn:0<n) (hb:Below w.heap.size w w'):Aw w' g n f:=h.keep (h.lt hn) hb
theorem Aw.t (h:Aw w g n f) (hb:Below w.heap.size w w') (hn:0<n:=by omega):Aw w' g n f:=h.to hn hb
theorem awa {U V:World} {o:Obj} (he:V=U.alloc o) (h:Aw U g n f) (hn:0<n:=by omega):Aw V g n f:=by rw [he];exact h.to hn ((Below.refl _ _).alloc (Nat.le_refl _) o)
theorem Aw.drew (h:Aw w g n f):Aw w.drew g n f:=h
theorem Aw.drewN (h:Aw w g n f) (k:Nat):Aw (w.drewN k) g n f:=h
theorem Aw.alloc (h:Aw w g n f) (hn:0<n) (o:Obj):Aw (w.alloc o) g n f:=h.to hn ((Below.refl _ _).alloc (Nat.le_refl _) o)
theorem Aw.ext {f':Nat->Nat} (h:Aw w g n f) (he: ∀j,j<n->f j=f' j):Aw w g n f':=λj hj=>by rw [<-he j hj];exact h j hj
theorem Aw.set (h:Aw w g n f) {j v:Nat} {x:Int} (hj:j<n) (hx:x=(v:Int)):Aw (w.setCell ⟨g,j,none⟩ (.int .u32 x)) g n (λi=>if i=j then v else f i):=by
 subst hx;intro i hi;refine⟨?_,by rw [World.frozen?_setCell];exact(h i hi).2⟩;by_cases e:i=j
 ·subst e;rw [World.cell?_setCell_same _ _ _ (h i hi).1];simp
 ·rw [World.cell?_setCell_other _ _ _ _ (λh=>by injection h with _ h;exact e h.symm),(h i hi).1];simp [e]
theorem Aw.far (h:Aw w g n f) {p:Addr} (hp:p.block≠g) (v:Value):Aw (w.setCell p v) g n f:=by
 intro i hi;refine⟨?_,by rw [World.frozen?_setCell];exact(h i hi).2⟩;rw [World.cell?_setCell_other _ _ _ _ (λe=>hp (by rw [e])),(h i hi).1]
theorem Aw.range (h:Aw w g n f):w.rangeAt g 0 (dA n f):=λj v hv=>by
 obtain⟨h1,rfl⟩:=ad3 hv;rw [Nat.zero_add];exact(h j h1).1
theorem Aw.there (h:Aw w g n f):w.there g 0 n:=λj hj=>by
 rw [Nat.zero_add,(h j hj).1];exact⟨rfl,(h j hj).2⟩
theorem Aw.whole (h:Aw w g n f) (f':Nat->Nat):Aw (w.setCells g 0 (dA n f')) g n f':=λj hj=>by
 have h1:=World.rangeAt_setCells_same w g 0 (dA n f') (by rw [Ic];exact h.there) j _ (Ie n f' j hj);rw [Nat.zero_add]at h1;exact⟨h1,by rw [World.frozen?_setCells];exact(h j hj).2⟩
end
theorem Aw.new (w:World) (n:Nat) (f:Nat->Nat) (t:TypeId):Aw (w.alloc (.cells (dA n f).toArray t)) w.heap.size n f:=λj hj=>by
 refine⟨?_,World.frozen?_alloc_at _ _ _ _ rfl⟩;rw [World.cell?_alloc_at _ _ _ _ rfl,List.getElem?_toArray];exact Ie n f j hj
theorem Aw.apart {w:World} {g n b:Nat} {f:Nat->Nat} (h:Aw w g n f) (hb:g≠b) (vs:List Value): ∀o,Aw (w.setCells b o vs) g n f:=by
 intro o
 induction vs generalizing o w with
 |nil=>exact h
 |cons v r ih=>rw [World.setCells];exact ih (h.far (p:=⟨b,o,none⟩) (λe=>hb e.symm) v) (o+1)
section
variable {P:Program}
theorem Nh {ops:Array Oper} {rest:List Oper} {op:Oper} {a:Act} {w:World} {Q:Exit->Act->World->Prop} (hgd:op.guard=none) (ty:TypeId) (x y:Operand) (ho:op.op= .store ty x y)
  (g n:Nat) (f f':Nat->Nat) (hx:a.eval x= .pointer (some ⟨g,0,none⟩)) (hy:a.eval y= .agg (dA n f').toArray)
  (hA:Aw w g n f) (hi:(P.info? ty).map (·.size)=some (dA n f').length)
  (h: ∀w',Aw w' g n f'->Below g w w'->w'.heap.size=w.heap.size->(∀g' n' wE,g'≠g->Aw w g' n' wE->Aw w' g' n' wE)->wpList P ops Q rest (a.put op.dst undef) w'):
  wpList P ops Q (op::rest) a w:=by
 refine wpList_store_mid hgd ty x y ho g 0 _ hx hy ?_ ?_ (all_oneCell_toArray (Ig n f')) ?_
 ·rw [List.size_toArray,Ic];exact hA.there
 ·rw [List.size_toArray];exact hi
 ·exact h _ (hA.whole f') (Below.setCells (Below.refl _ _) (Nat.le_refl _) _ _) (World.setCells_size _ _ _ _) (λg' n' wE hg' h'=>h'.apart hg' _ _)
theorem Ee {ops:Array Oper} {rest:List Oper} {op:Oper} {a:Act} {w:World} {Q:Exit->Act->World->Prop} (hgd:op.guard=none) (ty:TypeId) (x:Operand) (ho:op.op= .load ty x)
  (g n:Nat) (f:Nat->Nat) {m:Nat} {e:TypeId} (hx:a.eval x= .pointer (some ⟨g,0,none⟩)) (hA:Aw w g n f)
  (hu:P.underlying ty=some (.array m e)) (hi:(P.info? ty).map (·.size)=some (dA n f).length)
  (h:wpList P ops Q rest (a.put op.dst (.agg (dA n f).toArray)) w):wpList P ops Q (op::rest) a w:=
 wpList_load_mid hgd ty x ho g 0 hx (dA n f) _ hA.range hu rfl hi h
theorem FL {fn:Func} {R:Ending->World->Prop} {a:Act} {w:World} {p:Tmp} {ty e:TypeId} {g n m:Nat} {f:Nat->Nat} (hr:fn.results= #[.cell p ty]) (hp:a.tmps.getD p undef= .pointer (some ⟨g,0,none⟩))
  (hA:Aw w g n f) (hu:P.underlying ty=some (.array m e)) (hi:(P.info? ty).map (·.size)=some (dA n f).length) (hd:a.defers= []) (hR:R (.returned (.agg (dA n f).toArray)) w):bodyPost P fn R .ret a w:=by
 refine bodyPost_ret (v:= .agg (dA n f).toArray) ?_ hd hR;have hp':a.tmps[p]?.getD undef= .pointer (some ⟨g,0,none⟩):=by simpa using hp
 simp only [results,hr];simp [hp',asAddr,run_loadVar_mid (P:=P) w g 0 ty (dA n f) _ hA.range hu rfl hi]
end
end
section
open Go.RowKit
section
variable {P:Program}
end
end
section
open Go.RowKit
theorem al9 {g o:Nat} {W W':World} {v:Value} {cs:List Value} (h:W.rangeAt g o (v::cs)) (hb:Below W.heap.size W W'):W'.rangeAt g o (v::cs):=λj u hu=>by
 have h0:=h 0 v rfl;have hg:g<W.heap.size:=by
  rcases Nat.lt_or_ge g W.heap.size with h1|h1
  ·exact h1
  ·simp [World.cell?,Array.getElem?_eq_none h1]at h0
 exact(hb.cell (p:=⟨g,o+j,none⟩) hg).trans (h j u hu)
theorem FC {g o:Nat} {W W':World} {f:Nat->Nat} (h:W.rangeAt g o (ae 16 f)) (hb:Below W.heap.size W W'):W'.rangeAt g o (ae 16 f):=by
 have e:ae 16 f=n8 (f 0)::(ae 16 f).tail:=rfl;rw [e]at h⊢;exact al9 h hb
end
section
open Go.ChangeShapes Go.WideShapes Go.RowKit
def byteOf:Value->UInt8
 | .int _ z=>UInt8.ofNat z.toNat
 |_=>0
theorem open_arr {H:Type} {enc:TypeId×Value->H} {P:Program} {W:World} {r:Reach} {base B:Nat} {sp:Nat->Bool} {held:Bool} {t e:TypeId} {n:Nat} {v:Value} {d:DataW H} {p:List MemPlace}
  (ht:P.underlying t=some (.array n e)) (he:P.underlying e=some (.int .u8)) (hct:P.cellsOf t=n) (hce:P.cellsOf e=1)
  (hv:Value.okWide P W r base t v) (h:DataW.Trod enc P W B sp held t v d p): ∃l:List UInt8,l.length=n/\v= .agg (l.map b8).toArray:=by
 obtain⟨cs,rfl,hsz⟩: ∃cs,v= .agg cs/\cs.size=P.cellsOf t:=by
  cases v<;>simp [Value.okWide,ht]at hv;exact⟨_,rfl,hv.1⟩
 obtain⟨fuel,hf⟩:=h;obtain⟨xs,m,rfl,hx,hlen,hxl,hg⟩:=DataW.trod_array ht hf;obtain⟨L⟩:=cs;have hL:L.length=n:=by simpa [hct]using hsz
 refine⟨L.map byteOf,by simpa using hL,?_⟩;congr 1;congr 1;rw [List.map_map];apply List.ext_getElem
 ·simp
 ·intro i h1 h2;have hi:i<n:=by omega
  have hgi:=hg i hi;rw [hce,Nat.mul_one,List.getElem?_eq_getElem (by omega)]at hgi;have hdt:(List.drop i L).take 1= [L[i]]:=by
   rw [List.drop_eq_getElem_cons h1];rfl
  have hcells:(Value.agg ⟨L⟩).cells.toList=L:=by simp [Value.cells]
  rw [hcells,hdt]at hgi;obtain⟨z,ez,_,wz⟩:=DataW.trod_int he hgi;simp at ez;have hb:0<=z/\z<=255:=by simpa [Lit.wf,IntKind.min,IntKind.max,IntKind.signed,IntKind.bits]using wz
  simp only [List.getElem_map,Function.comp];rw [ez];simp only [byteOf];rw [Bz _ (by omega)];congr 1;omega
end
section
open Go.ChangeShapes Go.WideShapes Go.RowKit
theorem ama (l:List UInt8) (n:Nat) (h:l.length=n):l.map b8=ae n λj=>(l.getD j 0).toNat:=by
 apply List.ext_getElem?;intro j;rcases Nat.lt_or_ge j n with h1|h1
 ·rw [oG n _ j h1,List.getElem?_map,List.getElem?_eq_getElem (by omega)];simp [b8,n8,List.getElem?_eq_getElem (show j<l.length by omega)]
 ·rw [List.getElem?_eq_none (by simp;omega),List.getElem?_eq_none (by rw [bz];exact h1)]
theorem TD {H:Type} {enc:TypeId×Value->H} {P:Program} {W:World} {r:Reach} {base B:Nat} {sp:Nat->Bool} {held:Bool} {t e:TypeId} {n:Nat} {v:Value} {d:DataW H} {p:List MemPlace}
  (ht:P.underlying t=some (.array n e)) (he:P.underlying e=some (.int .u8)) (hct:P.cellsOf t=n) (hce:P.cellsOf e=1)
  (hv:Value.okWide P W r base t v) (h:DataW.Trod enc P W B sp held t v d p): ∃f:Nat->Nat,(∀j,j<n->f j<256)/\v= .agg (ae n f).toArray:=by
 obtain⟨l,hl,rfl⟩:=open_arr ht he hct hce hv h;exact⟨_,λj _=>UInt8.toNat_lt _,by rw [ama l n hl]⟩
end
section
def zF:Nat->Nat:=λ_=>0
end
section
open Go.RowKit
def av (n:Nat) (c:Nat->Value):List Value:=(List.range n).map c
theorem dB (n:Nat) (c:Nat->Value):(av n c).length=n:=by simp [av]
theorem OZ (n:Nat) (c:Nat->Value) (j:Nat) (h:j<n):(av n c)[j]?=some (c j):=by
 simp [av,List.getElem?_map,List.getElem?_range h]
theorem Bi {n:Nat} {c:Nat->Value} {j:Nat} {v:Value} (h:(av n c)[j]?=some v):j<n/\v=c j:=by
 rcases Nat.lt_or_ge j n with h1|h1
 ·rw [OZ n c j h1]at h;exact⟨h1,(Option.some.inj h).symm⟩
 ·rw [List.getElem?_eq_none (by rw [dB];exact h1)]at h;cases h
theorem kW (n:Nat) (c:Nat->Value) (h: ∀j,j<n->(c j).oneCell'=true): ∀v∈av n c,v.oneCell'=true:=by
 intro v hv;obtain⟨x,hx,rfl⟩:=List.mem_map.1 hv;exact h x (List.mem_range.1 hx)
theorem ajd (n:Nat) (c:Nat->Value) (l:List Value) (hl:l.length=n) (h: ∀j v,l[j]?=some v->v=c j):l=av n c:=by
 apply List.ext_getElem?;intro j;rcases Nat.lt_or_ge j n with h1|h1
 ·rw [OZ n c j h1];have e:l[j]?=some (l[j]'(by omega)):=List.getElem?_eq_getElem (by omega);rw [e,h j _ e]
 ·rw [List.getElem?_eq_none (by omega),List.getElem?_eq_none (by rw [dB];exact h1)]
def Cx (w:World) (g n:Nat) (c:Nat->Value):Prop:= ∀j,j<n->w.cell? ⟨g,j,none⟩=some (c j)/\w.frozen? ⟨g,j,none⟩=false
section
variable {w w':World} {g n:Nat} {c:Nat->Value}
theorem Cx.lt (h:Cx w g n c) (hn:0<n):g<w.heap.size:=by
 have h1:=(h 0 hn).1;rcases Nat.lt_or_ge g w.heap.size with h2|h2
 ·exact h2
 ·simp [World.cell?,Array.getElem?_eq_none h2]at h1
theorem Cx.keep {B:Nat} (h:Cx w g n c) (hg:g<B) (hb:Below B w w'):Cx w' g n c:=λj hj=>
 ⟨(hb.cell (p:=⟨g,j,none⟩) hg).trans (h j hj).1,(hb.frozen (p:=⟨g,j,none⟩) hg).trans (h j hj).2⟩
theorem Cx.to (h:Cx w g n c) (hn:0<n) (hb:Below w.heap.size w w'):Cx w' g n c:=h.keep (h.lt hn) hb
theorem Cx.t (h:Cx w g n c) (hb:Below w.heap.size w w') (hn:0<n:=by omega):Cx w' g n c:=h.to hn hb
theorem Cx.drew (h:Cx w g n c):Cx w.drew g n c:=h
theorem Cx.drewN (h:Cx w g n c) (k:Nat):Cx (w.drewN k) g n c:=h
theorem Cx.alloc (h:Cx w g n c) (hn:0<n) (o:Obj):Cx (w.alloc o) g n c:=h.to hn ((Below.refl _ _).alloc (Nat.le_refl _) o)
theorem Cx.ext {d:Nat->Value} (h:Cx w g n c) (he: ∀j,j<n->c j=d j):Cx w g n d:=λj hj=>by rw [<-he j hj];exact h j hj
theorem Cx.set (h:Cx w g n c) {j:Nat} (v:Value) (hj:j<n):Cx (w.setCell ⟨g,j,none⟩ v) g n (λi=>if i=j then v else c i):=by
 intro i hi;refine⟨?_,by rw [World.frozen?_setCell];exact(h i hi).2⟩;by_cases e:i=j
 ·subst e;rw [World.cell?_setCell_same _ _ _ (h i hi).1];simp
 ·rw [World.cell?_setCell_other _ _ _ _ (λh=>by injection h with _ h;exact e h.symm),(h i hi).1];simp [e]
theorem Cx.far (h:Cx w g n c) {p:Addr} (hp:p.block≠g) (v:Value):Cx (w.setCell p v) g n c:=by
 intro i hi;refine⟨?_,by rw [World.frozen?_setCell];exact(h i hi).2⟩;rw [World.cell?_setCell_other _ _ _ _ (λe=>hp (by rw [e])),(h i hi).1]
theorem Cx.range (h:Cx w g n c) (o:Nat) (vs:List Value) (ho:o+vs.length<=n) (he: ∀j v,vs[j]?=some v->c (o+j)=v):w.rangeAt g o vs:=λj v hv=>by
 have hj:j<vs.length:=(List.getElem?_eq_some_iff.1 hv).1;rw [(h (o+j) (by omega)).1,he j v hv]
theorem Cx.there (h:Cx w g n c) (o m:Nat) (ho:o+m<=n):w.there g o m:=λj hj=>by
 rw [(h (o+j) (by omega)).1];exact⟨rfl,(h (o+j) (by omega)).2⟩
def wV (c:Nat->Value) (o:Nat) (vs:List Value):Nat->Value:=λi=>if o<=i/\i<o+vs.length then vs[i-o]?.getD undef else c i
theorem Cx.put (h:Cx w g n c) (o:Nat) (vs:List Value) (ho:o+vs.length<=n):Cx (w.setCells g o vs) g n (wV c o vs):=λj hj=>by
 refine⟨?_,by rw [World.frozen?_setCells];exact(h j hj).2⟩;unfold wV;by_cases hc:o<=j/\j<o+vs.length
 ·rw [if_pos hc];have Bn:j-o<vs.length:=by omega
  have h1:=World.rangeAt_setCells_same w g o vs (h.there o vs.length ho) (j-o) _ (List.getElem?_eq_getElem Bn);rw [show o+(j-o)=j by omega]at h1;rw [h1,List.getElem?_eq_getElem Bn];rfl
 ·rw [if_neg hc,World.cell?_setCells_out g vs o w ⟨g,j,none⟩ (λ_ _=>by simp;omega)];exact(h j hj).1
theorem Cx.apart {b:Nat} (h:Cx w g n c) (hb:g≠b) (vs:List Value): ∀o,Cx (w.setCells b o vs) g n c:=by
 intro o
 induction vs generalizing o w with
 |nil=>exact h
 |cons v r ih=>rw [World.setCells];exact ih (h.far (p:=⟨b,o,none⟩) (λe=>hb e.symm) v) (o+1)
theorem Cx.ar {f:Nat->Nat} (h:Cx w g n (λj=>n8 (f j))):Ar w g n f:=h
end
theorem Cx.new (w:World) (n:Nat) (c:Nat->Value) (t:TypeId):Cx (w.alloc (.cells (av n c).toArray t)) w.heap.size n c:=λj hj=>by
 refine⟨?_,World.frozen?_alloc_at _ _ _ _ rfl⟩;rw [World.cell?_alloc_at _ _ _ _ rfl,List.getElem?_toArray];exact OZ n c j hj
section
variable {P:Program}
theorem qY {ops:Array Oper} {rest:List Oper} {op:Oper} {a:Act} {w:World} {Q:Exit->Act->World->Prop} (hgd:op.guard=none) (ty:TypeId) (x y:Operand) (ho:op.op= .store ty x y)
  (g n o:Nat) (c:Nat->Value) (vs:List Value) (hx:a.eval x= .pointer (some ⟨g,o,none⟩)) (hy:a.eval y= .agg vs.toArray)
  (hA:Cx w g n c) (hon:o+vs.length<=n) (hi:(P.info? ty).map (·.size)=some vs.length) (h1: ∀v∈vs,v.oneCell'=true)
  (h: ∀w',Cx w' g n (wV c o vs)->Below g w w'->w'.heap.size=w.heap.size->(∀g' n' d,g'≠g->Cx w g' n' d->Cx w' g' n' d)->wpList P ops Q rest (a.put op.dst undef) w'):
  wpList P ops Q (op::rest) a w:=by
 refine wpList_store_mid hgd ty x y ho g o _ hx hy ?_ ?_ (all_oneCell_toArray h1) ?_
 ·rw [List.size_toArray];exact hA.there o _ hon
 ·rw [List.size_toArray];exact hi
 ·exact h _ (hA.put o vs hon) (Below.setCells (Below.refl _ _) (Nat.le_refl _) _ _) (World.setCells_size _ _ _ _) (λg' n' d hg' h'=>h'.apart hg' _ _)
end
end
section
theorem Xt (h l m k:Nat) (hl:l<2^k):(2^k*h+l) &&& (2^k*m)=2^k*(h &&& m):=by
 apply Nat.eq_of_testBit_eq;intro i;rw [Nat.testBit_and,Nat.testBit_two_pow_mul_add _ hl,Nat.testBit_two_pow_mul,Nat.testBit_two_pow_mul];by_cases hi:i<k
 ·rw [if_pos hi];have: ¬i>=k:=by omega
  simp [this]
 ·rw [if_neg hi];have:i>=k:=by omega
  simp [this,Nat.testBit_and]
theorem QY (h:Nat):h &&& 255=h%256:=Nat.and_two_pow_sub_one_eq_mod h 8
theorem amb (x:Nat) (hx:x<4294967296):x &&& 4278190080=wb x 0*16777216:=by
 have h:=Xt (x/16777216) (x%16777216) 255 24 (Nat.mod_lt _ (by decide));rw [QY,show 2^24*(x/16777216)+x%16777216=x by omega]at h;rw [show(4278190080:Nat)=2^24*255 by decide,h];simp only [wb,Nat.reduceSub,Nat.reducePow];omega
theorem amc (x:Nat) (hx:x<4294967296):x &&& 16711680=wb x 1*65536:=by
 have h:=Xt (x/65536) (x%65536) 255 16 (Nat.mod_lt _ (by decide));rw [QY,show 2^16*(x/65536)+x%65536=x by omega]at h;rw [show(16711680:Nat)=2^16*255 by decide,h];simp only [wb,Nat.reduceSub,Nat.reducePow];omega
theorem amd (x:Nat) (hx:x<4294967296):x &&& 65280=wb x 2*256:=by
 have h:=Xt (x/256) (x%256) 255 8 (Nat.mod_lt _ (by decide));rw [QY,show 2^8*(x/256)+x%256=x by omega]at h;rw [show(65280:Nat)=2^8*255 by decide,h];simp only [wb,Nat.reduceSub,Nat.reducePow];omega
theorem ame (x:Nat):x &&& 255=wb x 3:=by
 rw [QY];simp only [wb,Nat.reduceSub,Nat.reducePow];omega
theorem zz (x k:Nat):wb x k<256:=Nat.mod_lt _ (by decide)
theorem ad4 (a b c d:Nat) (hb:b<256) (hc:c<256) (hd:d<256):a*16777216|||b*65536|||c*256|||d=jd a b c d:=by
 rw [show a*16777216=2^24*a by omega,<-Nat.two_pow_add_eq_or_of_lt (show b*65536<2^24 by omega),
  show 2^24*a+b*65536=2^16*(256*a+b)by omega,<-Nat.two_pow_add_eq_or_of_lt (show c*256<2^16 by omega),
  show 2^16*(256*a+b)+c*256=2^8*(256*(256*a+b)+c)by omega,<-Nat.two_pow_add_eq_or_of_lt (show d<2^8 by omega)]
 unfold jd;omega
theorem QZ (a b:Nat) (ha:a<4294967296) (hb:b<4294967296):bits .and .u32 (a:Int) (b:Int)=((a &&& b:Nat):Int):=
 (bits_nat .u32 32 (by decide) QO a b ha hb).1
theorem Uk (a b:Nat) (ha:a<4294967296) (hb:b<4294967296):bits .xor .u32 (a:Int) (b:Int)=((a^^^b:Nat):Int):=
 QN .u32 32 (by decide) QO a b ha hb
theorem ad5 (a b:Nat) (ha:a<4294967296) (hb:b<4294967296):a^^^b<4294967296:=Nat.xor_lt_two_pow (n:=32) ha hb
theorem Xu {a b c d:Nat} (ha:a<256) (hb:b<256) (hc:c<256) (hd:d<256):
  mf (jd a b c d) 8=jd b c d a/\mf (jd a b c d) 16=jd c d a b/\mf (jd a b c d) 24=jd d a b c:=by
 have hq:=Xp ha hb hc hd;refine⟨?_,?_,?_⟩<;>rw [Xj _ hq _ (by decide),Xi _ _ (by decide)]<;>unfold jd<;>simp only [Nat.reduceSub,Nat.reducePow]<;>omega
def Ni (a b c d:Nat):Nat:=a^^^mf b 24^^^mf c 16^^^mf d 8
def AL (p q r s x:Nat):Nat:=jd (mul p x) (mul q x) (mul r x) (mul s x)
theorem ad6 (p q r s x:Nat) (hp:p<256) (hq:q<256) (hr:r<256) (hs:s<256):AL p q r s x<4294967296:=Xp (mul_lt _ _ hp) (mul_lt _ _ hq) (mul_lt _ _ hr) (mul_lt _ _ hs)
theorem ad7 (p q r s:Nat) (hp:p<256) (hq:q<256) (hr:r<256) (hs:s<256) (f:Nat->Nat) (i:Nat) (hi:i<4):
  Ni (AL p q r s (f (4*i))) (AL p q r s (f (4*i+1))) (AL p q r s (f (4*i+2))) (AL p q r s (f (4*i+3)))=wd (za p s r q f) i:=by
 have l: ∀m x,m<256->mul m x<256:=λm x h=>mul_lt m x h;unfold Ni AL;rw [(Xu (l p _ hp) (l q _ hq) (l r _ hr) (l s _ hs)).2.2,(Xu (l p _ hp) (l q _ hq) (l r _ hr) (l s _ hs)).2.1,(Xu (l p _ hp) (l q _ hq) (l r _ hr) (l s _ hs)).1,
  Kj (l _ _ hq) (l _ _ hr) (l _ _ hs) (l _ _ hp) (l _ _ hq) (l _ _ hr),
  Kj (ku _ _ (l _ _ hq) (l _ _ hp)) (ku _ _ (l _ _ hr) (l _ _ hq)) (ku _ _ (l _ _ hs) (l _ _ hr)) (l _ _ hs) (l _ _ hp) (l _ _ hq),
  Kj (ku _ _ (ku _ _ (l _ _ hq) (l _ _ hp)) (l _ _ hs)) (ku _ _ (ku _ _ (l _ _ hr) (l _ _ hq)) (l _ _ hp)) (ku _ _ (ku _ _ (l _ _ hs) (l _ _ hr)) (l _ _ hq)) (l _ _ hr) (l _ _ hs) (l _ _ hp)]
 unfold wd za;obtain⟨o,ho⟩: ∃o,o=4*i:=⟨_,rfl⟩;rw [<-ho];have d0:o/4*4=o:=by omega
 have d1:(o+1)/4*4=o:=by omega
 have d2:(o+2)/4*4=o:=by omega
 have d3:(o+3)/4*4=o:=by omega
 have m1:(o+1)%4=1:=by omega
 have m2:(o+2)%4=2:=by omega
 have m3:(o+3)%4=3:=by omega
 have m4:(o+4)%4=0:=by omega
 have m5:(o+5)%4=1:=by omega
 have m6:(o+6)%4=2:=by omega
 simp only [Nat.add_assoc,Nat.reduceAdd,d0,d1,d2,d3,m1,m2,m3,m4,m5,m6,Nat.add_zero];congr 1<;>ac_rfl
theorem amf (f k:Nat->Nat) (i:Nat) (hf:aj f) (hk:aj k) (hi:i<4):wd f i^^^wd k i=wd (ah f k) i:=by
 unfold wd ah;rw [Kj (hf _ (by omega)) (hf _ (by omega)) (hf _ (by omega)) (hk _ (by omega)) (hk _ (by omega)) (hk _ (by omega))]
def AO (a b c d:Nat):Nat:=jd (wb a 0) (wb b 1) (wb c 2) (wb d 3)
theorem amg (f:Nat->Nat) (hf:aj f):AO (wd f 0) (wd f 1) (wd f 2) (wd f 3)=wd (bf f) 0/\AO (wd f 1) (wd f 2) (wd f 3) (wd f 0)=wd (bf f) 1/\
  AO (wd f 2) (wd f 3) (wd f 0) (wd f 1)=wd (bf f) 2/\AO (wd f 3) (wd f 0) (wd f 1) (wd f 2)=wd (bf f) 3:=by
 unfold AO;refine⟨?_,?_,?_,?_⟩<;>rw [oF f _ _ hf (by decide) (by decide),oF f _ _ hf (by decide) (by decide),oF f _ _ hf (by decide) (by decide),oF f _ _ hf (by decide) (by decide)]<;>rfl
theorem amh (f:Nat->Nat) (hf:aj f):AO (wd f 0) (wd f 3) (wd f 2) (wd f 1)=wd (eU f) 0/\AO (wd f 1) (wd f 0) (wd f 3) (wd f 2)=wd (eU f) 1/\
  AO (wd f 2) (wd f 1) (wd f 0) (wd f 3)=wd (eU f) 2/\AO (wd f 3) (wd f 2) (wd f 1) (wd f 0)=wd (eU f) 3:=by
 unfold AO;refine⟨?_,?_,?_,?_⟩<;>rw [oF f _ _ hf (by decide) (by decide),oF f _ _ hf (by decide) (by decide),oF f _ _ hf (by decide) (by decide),oF f _ _ hf (by decide) (by decide)]<;>rfl
theorem ami (f:Nat->Nat) (i:Nat) (hf:aj f) (hi:i<4):Ae (wd f i)=wd (aZ f) i:=by
 unfold Ae;rw [oF f _ _ hf hi (by decide),oF f _ _ hf hi (by decide),oF f _ _ hf hi (by decide),oF f _ _ hf hi (by decide)];rfl
def Kk (x:Nat):Nat:=AL 2 1 1 3 (sb x)
def Kl (x:Nat):Nat:=AL 14 9 13 11 x
theorem Ul (x:Nat):Kk x<4294967296:=ad6 _ _ _ _ _ (by decide) (by decide) (by decide) (by decide)
theorem Um (x:Nat):Kl x<4294967296:=ad6 _ _ _ _ _ (by decide) (by decide) (by decide) (by decide)
theorem amj (f:Nat->Nat) (i:Nat) (hf:aj f) (hi:i<4):
  Ni (Kk (wb (wd f i) 0)) (Kk (wb (wd f i) 1)) (Kk (wb (wd f i) 2)) (Kk (wb (wd f i) 3))=wd (dm (aZ f)) i:=by
 rw [oF f _ _ hf hi (by decide),oF f _ _ hf hi (by decide),oF f _ _ hf hi (by decide),oF f _ _ hf hi (by decide)];exact ad7 2 1 1 3 (by decide) (by decide) (by decide) (by decide) (aZ f) i hi
theorem amk (f:Nat->Nat) (i:Nat) (hf:aj f) (hi:i<4):
  Ni (Kl (wb (wd f i) 0)) (Kl (wb (wd f i) 1)) (Kl (wb (wd f i) 2)) (Kl (wb (wd f i) 3))=wd (iw f) i:=by
 rw [oF f _ _ hf hi (by decide),oF f _ _ hf hi (by decide),oF f _ _ hf hi (by decide),oF f _ _ hf hi (by decide)];exact ad7 14 9 13 11 (by decide) (by decide) (by decide) (by decide) f i hi
theorem aml: ∀s,s<256->jd (iI s) s s (iI s^^^s)=AL 2 1 1 3 s:=by decide+kernel
theorem amm: ∀b,b<256->jd (iI (iI (iI b))^^^iI (iI b)^^^iI b) (iI (iI (iI b))^^^b) (iI (iI (iI b))^^^iI (iI b)^^^b) (iI (iI (iI b))^^^iI b^^^b)=AL 14 9 13 11 b:=by decide+kernel
theorem amn (f:Nat->Nat) (i:Nat) (hf:aj f) (hi:i<4):
  jd (bk (wb (wd f i) 0)) (bk (wb (wd f i) 1)) (bk (wb (wd f i) 2)) (bk (wb (wd f i) 3))=wd (dX f) i:=by
 rw [oF f _ _ hf hi (by decide),oF f _ _ hf hi (by decide),oF f _ _ hf hi (by decide),oF f _ _ hf hi (by decide)];rfl
end
section
open Go.RowKit
def Cc (P:World->Prop):Prop:= ∀w w':World,Below w.heap.size w w'->P w->P w'
theorem Xv {P Q:World->Prop} (a:Cc P) (b:Cc Q):Cc (λw=>P w/\Q w):=λw w' hq h=>⟨a w w' hq h.1,b w w' hq h.2⟩
theorem Xw {u:World} :Cc (λw=>Below u.heap.size u w):=λ_ _ hq h=>h.trans (hq.mono h.size)
theorem Xx {g n:Nat} {f:Nat->Nat} :Cc (λw=>Ar w g n f):=λ_ _ hq h j hj=>h.keep (h.lt (by omega)) hq j hj
theorem Xy {g n:Nat} {f:Nat->Nat} :Cc (λw=>Aw w g n f):=λ_ _ hq h j hj=>h.keep (h.lt (by omega)) hq j hj
theorem Xz {g n:Nat} {c:Nat->Value} :Cc (λw=>Cx w g n c):=λ_ _ hq h j hj=>h.keep (h.lt (by omega)) hq j hj
theorem An {w v:World} {n:Nat} {f:Nat->Nat} {t:TypeId} (h:v=w.alloc (.cells (ae n f).toArray t)):Ar v w.heap.size n f:=by rw [h];exact Ar.new w n f t
theorem tF {w v:World} {g n:Nat} {f:Nat->Nat} {t:TypeId} (h:v=w.alloc (.cells (ae n f).toArray t)) (hs:w.heap.size=g):Ar v g n f:=by rw [h,<-hs];exact Ar.new w n f t
theorem nA (w:World) (n:Nat) (f:Nat->Nat) (t:TypeId): ∃v,v=w.alloc (.cells (ae n f).toArray t)/\v.heap.size=w.heap.size+1/\Below w.heap.size w v/\Ar v w.heap.size n f:=⟨_,rfl,by simp,(Below.refl _ _).alloc (Nat.le_refl _) _,Ar.new w n f t⟩
theorem fw {u w:World} (hs:u.heap.size=w.heap.size+1) (hb:Below w.heap.size w u) (n:Nat) (f:Nat->Nat) (t:TypeId): ∃v,v=u.alloc (.cells (ae n f).toArray t)/\v.heap.size=w.heap.size+2/\Below w.heap.size w v/\Ar v (w.heap.size+1) n f:=⟨_,rfl,by simp [hs],hb.alloc hb.size _,by rw [<-hs];exact Ar.new u n f t⟩
theorem o7 {u w:World} (hs:u.heap.size=w.heap.size+2) (hb:Below w.heap.size w u) (n:Nat) (f:Nat->Nat) (t:TypeId): ∃v,v=u.alloc (.cells (ae n f).toArray t)/\v.heap.size=w.heap.size+3/\Below w.heap.size w v/\Ar v (w.heap.size+2) n f:=⟨_,rfl,by simp [hs],hb.alloc hb.size _,by rw [<-hs];exact Ar.new u n f t⟩
theorem Uz {u w:World} (hs:u.heap.size=w.heap.size+3) (hb:Below w.heap.size w u) (n:Nat) (f:Nat->Nat) (t:TypeId): ∃v,v=u.alloc (.cells (ae n f).toArray t)/\v.heap.size=w.heap.size+4/\Below w.heap.size w v/\Ar v (w.heap.size+3) n f:=⟨_,rfl,by simp [hs],hb.alloc hb.size _,by rw [<-hs];exact Ar.new u n f t⟩
theorem nB4 {u w:World} (hs:u.heap.size=w.heap.size+4) (hb:Below w.heap.size w u) (n:Nat) (f:Nat->Nat) (t:TypeId): ∃v,v=u.alloc (.cells (ae n f).toArray t)/\v.heap.size=w.heap.size+5/\Below w.heap.size w v/\Ar v (w.heap.size+4) n f:=⟨_,rfl,by simp [hs],hb.alloc hb.size _,by rw [<-hs];exact Ar.new u n f t⟩
theorem ko {S:World->Prop} {X K:Act->World->Prop} (hK:Shut (∀a w,S w->(S w->X a w)->K a w)) {a:Act} {w w':World} (hq:Below w.heap.size w w') (h:S w) (k:S w'->X a w')
  (hk:Cc S:=by repeat' (first|with_reducible exact Xx|with_reducible exact Xw|with_reducible exact Xy|with_reducible exact Xz|with_reducible exact Wy|with_reducible refine Xv ?_ ?_|exact λ_ _ hq h=>h.to hq)):K a w':=hK.out a w' (hk w w' hq h) k
section
variable {P:Program} {md:Region.Mode} {ops:Array Oper} {Q:Exit->Act->World->Prop} {S:World->Prop} {fuel:Nat} {listed:Array Bool} {a:Act} {w:World} {f:FuncId} {args:Array Value} {v:Value}
theorem kc {X K:Act->World->Prop} {o:Oper} (hK:Shut (∀a w,S w->(S w->X a w)->K a w)) (hc:Calls P f args w λe w'=>e= .returned v/\Below w.heap.size w w') (hS:S w) (h: ∀w',Below w.heap.size w w'->S w'->X (a.put o.dst v) w')
  (hw:Region.wanted o (yielded ops a.tmps)=true:=by rfl) (he:(execOp a.eval o).run P w= .ok (.enter f args) w:=by go_simp;try (first|rfl|((repeat' apply And.intro)<;>rfl)))
  (hk:Cc S:=by repeat' (first|with_reducible exact Xx|with_reducible exact Xw|with_reducible exact Xy|with_reducible exact Xz|with_reducible exact Wy|with_reducible refine Xv ?_ ?_|exact λ_ _ hq h=>h.to hq)):
  if Region.wanted o (yielded ops a.tmps)=true then Oper.wp P o a w K Q else K (a.put o.dst undef) w:=by
 rw [if_pos hw];unfold Oper.wp;rw [he,Oper.upon_enter];exact hc.mono λe w' ⟨e1,hq⟩=>by subst e1;exact hK.out _ _ (hk _ _ hq hS) (h w' hq)
theorem rq (i:Nat) {o:Oper} (ho:ops[i]?=some o) (hc:Calls P f args w λe w'=>e= .returned v/\Below w.heap.size w w') (hS:S w)
  (h: ∀w',Below w.heap.size w w'->S w'->wpAnyH P md ops Q S fuel (listed.setIfInBounds i true) (a.put o.dst v) w')
  (hw:Region.wanted o (yielded ops a.tmps)=true:=by rfl) (he:(execOp a.eval o).run P w= .ok (.enter f args) w:=by go_simp;try (first|rfl|((repeat' apply And.intro)<;>rfl))) (hr:Region.ready md ops listed= [i]:=by kernel_rfl)
  (hk:Cc S:=by repeat' (first|with_reducible exact Xx|with_reducible exact Xw|with_reducible exact Xy|with_reducible exact Xz|with_reducible exact Wy|with_reducible refine Xv ?_ ?_|exact λ_ _ hq h=>h.to hq)):
  wpAnyH P md ops Q S (fuel+1) listed a w:=wpAnyH_ready hr (by simp) (AllReadyH.cons ho (λ_ hK=>kc hK hc hS h hw he hk) AllReadyH.nil)
end
def Av (b o:Nat) (vs:List Value) (P:World->Prop):Prop:= ∀w:World,P w->P (w.setCells b o vs)
section
variable {b o:Nat} {vs:List Value}
theorem amo {P Q:World->Prop} (a:Av b o vs P) (c:Av b o vs Q):Av b o vs (λw=>P w/\Q w):=λw h=>⟨a w h.1,c w h.2⟩
theorem pBe {u:World} (h:u.heap.size<=b):Av b o vs (λw=>Below u.heap.size u w):=λw k=>k.trans (Below.setCells (Below.refl u.heap.size _) (b:=b) h vs o)
theorem pAr {g n:Nat} {f:Nat->Nat} (h:g≠b):Av b o vs (λw=>Ar w g n f):=λw k=>k.apart h vs o
theorem pAw {g n:Nat} {f:Nat->Nat} (h:g≠b):Av b o vs (λw=>Aw w g n f):=λw k=>k.apart h vs o
theorem pCx {g n:Nat} {c:Nat->Value} (h:g≠b):Av b o vs (λw=>Cx w g n c):=λw k=>k.apart h vs o
theorem so {S:World->Prop} {X K:Act->World->Prop} (hK:Shut (∀a w,S w->(S w->X a w)->K a w)) {a:Act} {w:World} (h:S w) (k:S (w.setCells b o vs)->X a (w.setCells b o vs))
  (hk:Av b o vs S:=by repeat' (first|((with_reducible refine pAr ?_)<;>omega)|((with_reducible refine pBe ?_)<;>omega)|((with_reducible refine pAw ?_)<;>omega)|((with_reducible refine pCx ?_)<;>omega)|((with_reducible refine pPo ?_)<;>omega)|((with_reducible refine pCe ?_)<;>omega)|((with_reducible refine pOb ?_)<;>omega)|((with_reducible refine pWb ?_)<;>omega)|with_reducible refine amo ?_ ?_|exact pCx (by omega)|exact pAr (by omega)|exact λ_ h=>h.apart (by omega) _ _)):K a (w.setCells b o vs):=hK.out a _ (hk w h) k
end
end
end Go.Proofs.YtdaiacmneopkgaaGreatDoor
