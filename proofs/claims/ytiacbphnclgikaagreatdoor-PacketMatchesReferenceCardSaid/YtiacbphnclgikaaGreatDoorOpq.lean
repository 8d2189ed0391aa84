/-
 What is opened: its length, that it is sealed to the bytes again; and that a changed tag is refused. A slice of bytes of a call's own as an array. No condition.
-/
import Derived.Test.YtiacbphnclgikaaGreatDoorOpa
import Derived.Test.YtiacbphnclgikaaGreatDoorSew
namespace Go.Proofs.YtiacbphnclgikaaGreatDoor
open Go.RowKit
set_option linter.unusedVariables false
set_option maxRecDepth 100000
theorem opL_le {f s a:Nat→Nat} {d l:List UInt8} {n:Nat} (hl:l.length=n):(opL f s a d l).length≤n:=by
 unfold opL
 split
 ·rw [dtL_len,List.length_take];omega
 ·exact Nat.zero_le _
theorem opL_len {f s a:Nat→Nat} {d l:List UInt8} {n:Nat} (hl:l.length=n) (h:opC f s a d l=0):(opL f s a d l).length+16=n:=by
 have h16:16≤n:=by
  rcases Nat.lt_or_ge n 16 with h2|h2
  ·rw [opC_short hl h2]at h;cases h
  ·exact h2
 rw [opL_ok hl rfl h,dtL_len,List.length_take];omega
theorem seal_op {f s a:Nat→Nat} {d l:List UInt8} {n:Nat} (hf:B16 f) (hs:B16 s) (ha:B16 a) (hl:l.length=n) (h:opC f s a d l=0):seL f s a (opL f s a d l) (tgF f s (csF (opL f s a d l)) (ofF s a (opL f s a d l).length) d)=l:=by
 have h16:16≤n:=by
  rcases Nat.lt_or_ge n 16 with h2|h2
  ·rw [opC_short hl h2]at h;cases h
  ·exact h2
 have hm:=opL_len (f:=f) (s:=s) (a:=a) (d:=d) hl h
 have ht:liB 16 (otF f s a d l (n-16))=l.drop (n-16):=Classical.byContradiction fun ht=>by rw [opC_no hl rfl h16 ht]at h;cases h
 rw [show(opL f s a d l).length=n-16 by omega,opL_ok hl rfl h]
 exact se_op_ok hf hs ha hl rfl h16 ht
theorem own_ar {w:World} {b n c:Nat} {A:Option Addr} {l:List UInt8} (h:w.ownsRow b 5 1 (.slice A n c) n (l.map b8)) (hn:0<n): ∃g,A=some ⟨g,0,none⟩∧b≤g∧n≤c∧Ar w g n (lF l):=by
 have hl:l.length=n:=by have:=h.1;simpa using this
 rcases h.2 with ⟨_,h2⟩|⟨g,cap,cur,e,h2,h3,h4,_,h6,h7⟩
 ·omega
 ·injection e with e1 _ e3
  subst e3
  refine⟨g,e1,h2,h4,fun j hj=> ?_⟩
  have hcur:cur[j]?=some (n8 (lF l j)):=by
   have h8:(cur.toList.take (n*1))[j]?=(l.map b8)[j]?:=by rw [h7]
   rw [List.getElem?_take,if_pos (by omega),Array.getElem?_toList,List.getElem?_map,List.getElem?_eq_getElem (by omega)]at h8
   rw [h8]
   simp [b8,lF,n8,List.getD,List.getElem?_eq_getElem (show j<l.length by omega)]
  refine⟨?_,?_⟩
  ·simp [World.cell?,h3,hcur];rfl
  ·simp [World.frozen?,h3]
theorem lF_out {l:List UInt8} {j:Nat} (h:l.length≤j):lF l j=0:=by
 unfold lF
 rw [List.getD,List.getElem?_eq_none h];rfl
def chF (R:List UInt8) (g:Nat→Nat) (n i j:Nat):Nat:=if n≤j∧j<n+i then lF R j^^^g (j-n)else lF R j
theorem chF_lt {R:List UInt8} {g:Nat→Nat} (hg:B16 g) (n i j:Nat) (hi:i≤16):chF R g n i j<256:=by
 unfold chF
 split
 ·exact Nat.xor_lt_two_pow (n:=8) (lF_lt _ _) (hg _ (by omega))
 ·exact lF_lt _ _
theorem chF_step (R:List UInt8) (g:Nat→Nat) (n i j:Nat):(if j=n+i then lF R (n+i)^^^g i else chF R g n i j)=chF R g n (i+1) j:=by
 unfold chF
 by_cases h:j=n+i
 ·subst h
  rw [if_pos rfl,if_pos (by omega),show n+i-n=i by omega]
 ·rw [if_neg h]
  by_cases h2:n≤j∧j<n+i
  ·rw [if_pos h2,if_pos (by omega)]
  ·rw [if_neg h2,if_neg (by omega)]
theorem tag_no {f s a g t:Nat→Nat} {p R:List UInt8} {n:Nat} (hf:B16 f) (hs:B16 s) (ha:B16 a) (hl:p.length=n) (ht:tgF f s (csF p) (ofF s a n) []=t) (htb:B16 t) (hgb:B16 g) (hg: ¬ ∀j,j<16→g j=0) (hR:seL f s a p t=R):opC f s a [] (liB (n+16) (chF R g n 16))=3:=by
 have hb: ∀j,j<n+16→chF R g n 16 j<256:=fun j _=>chF_lt hgb n 16 j (by omega)
 have hRl:R.length=n+16:=by rw [←hR,seL_len,hl]
 have htk:(liB (n+16) (chF R g n 16)).take n=ctL f s a p:=by
  rw [liB_take _ _ _ (by omega),←seL_take f s a p t hl,hR]
  refine lF_ext (by rw [liB_len,List.length_take];omega) (fun j hj=> ?_)
  have hj2:j<n:=by rw [List.length_take]at hj;omega
  rw [lF_liB n _ (fun i hi=>hb i (by omega)) j hj2]
  unfold chF
  rw [if_neg (by omega)]
  unfold lF
  rw [List.getD,List.getD,List.getElem?_take,if_pos hj2]
 refine opC_no (liB_len _ _) (Nat.add_sub_cancel ..) (by omega) ?_
 unfold otF
 rw [htk,dt_ct hf hs ha,ht]
 intro e
 apply hg
 intro j hj
 have h1:lF (liB 16 t) j=lF ((liB (n+16) (chF R g n 16)).drop n) j:=by rw [e]
 rw [lF_liB 16 t htb j hj,lF_drop,lF_liB _ _ hb _ (by omega)]at h1
 unfold chF at h1
 rw [if_pos (by omega),Nat.add_sub_cancel_left]at h1
 have h2:lF R (n+j)=t j:=by
  rw [←lF_drop,←hR,seL_drop f s a p t hl]
  exact lF_liB 16 t htb j hj
 rw [h2]at h1
 have h3:t j^^^(t j^^^g j)=t j^^^t j:=by rw [←h1]
 rw [←Nat.xor_assoc,Nat.xor_self,Nat.zero_xor]at h3
 exact h3
theorem afacts {n i p N:Nat} (h:n+i=p) (hN:n+16=N) (hi:i<16) (hn:n≤1000):wrap64 ((n:Int)+(i:Int))=(p:Int)∧IntKind.i64.wrap ((n:Int)+(i:Int))=(p:Int)∧(n:Int)+(i:Int)=(p:Int)∧IntKind.i64.wrap (p:Int)=(p:Int)∧(p:Int)<(N:Int)∧p<N:=by
 subst h
 refine⟨?_,?_,by omega,?_,by omega,by omega⟩
 ·rw [IntWalk.wrap64_in _ (by omega)];omega
 ·rw [IntKind.wrap_i64];omega
 ·rw [IntKind.wrap_i64];omega
end Go.Proofs.YtiacbphnclgikaaGreatDoor
