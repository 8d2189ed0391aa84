/-
 Datagrams as functions on bytes: what is sealed, the datagram, what a datagram says, and the ways back. No condition.
-/
import Derived.Test.YtiacbphnclgikaaGreatDoorOpq
import Derived.Test.YtiacbphnclgikaaGreatDoorGnc
namespace Go.Proofs.YtiacbphnclgikaaGreatDoor
open Go.RowKit
set_option linter.unusedVariables false
set_option maxRecDepth 100000
def nqF (d x:Nat):Nat→Nat:=noF (hdF d x)
def kaF (f q:Nat→Nat):Nat→Nat:=o0F (enF f (nbF q)) (q 11)
theorem nqF_lt (d x:Nat):B12 (nqF d x):=noF_lt (hdF_lt d x)
theorem kaF_lt {f q:Nat→Nat} (hf:B16 f) (hq:B12 q):B16 (kaF f q):=o0F_lt (enR_lt hf (nbF_lt hq) 10) _
def hbL (t e:Nat):List UInt8:= [UInt8.ofNat (t/256),UInt8.ofNat (t%256),UInt8.ofNat (e/256),UInt8.ofNat (e%256)]
def plL (t e:Nat) (p:List UInt8):List UInt8:=hbL t e++p
theorem plL_len (t e:Nat) (p:List UInt8):(plL t e p).length=p.length+4:=by unfold plL hbL;rw [List.length_append];simp;omega
theorem plL_drop (t e:Nat) (p:List UInt8):(plL t e p).drop 4=p:=rfl
theorem byte_up (a b:UInt8):UInt8.ofNat ((a.toNat*256+b.toNat)/256)=a∧UInt8.ofNat ((a.toNat*256+b.toNat)%256)=b:=by
 have ha:=a.toNat_lt
 have hb:=b.toNat_lt
 rw [show(a.toNat*256+b.toNat)/256=a.toNat by omega,show(a.toNat*256+b.toNat)%256=b.toNat by omega]
 exact⟨UInt8.ofNat_toNat,UInt8.ofNat_toNat⟩
def tmT (p:List UInt8):Nat:=lF p 0*256+lF p 1
def tmE (p:List UInt8):Nat:=lF p 2*256+lF p 3
theorem ptT_lt (p:List UInt8):tmT p<65536:=by have:=lF_lt p 0;have:=lF_lt p 1;unfold tmT;omega
theorem ptE_lt (p:List UInt8):tmE p<65536:=by have:=lF_lt p 2;have:=lF_lt p 3;unfold tmE;omega
theorem plL_of {p:List UInt8} (h:4≤p.length):plL (tmT p) (tmE p) (p.drop 4)=p:=by
 match p,h with
 |a::b::c::d::r,_=>
  have h1:=byte_up a b
  have h2:=byte_up c d
  unfold plL hbL tmT tmE lF
  simp only [List.drop_succ_cons,List.drop_zero,List.cons_append,List.nil_append,List.getD_cons_zero,List.getD_cons_succ]
  rw [h1.1,h1.2,h2.1,h2.2]
theorem pt_pl {t e:Nat} (ht:t<65536) (he:e<65536) (p:List UInt8):tmT (plL t e p)=t∧tmE (plL t e p)=e:=by
 unfold tmT tmE plL hbL lF
 simp only [List.cons_append,List.nil_append,List.getD_cons_zero,List.getD_cons_succ,UInt8.toNat_ofNat']
 omega
def sdL (f q:Nat→Nat) (p:List UInt8):List UInt8:=seL f (enF f zF) (kaF f q) p (tgF f (enF f zF) (csF p) (ofF (enF f zF) (kaF f q) p.length) [])
theorem sdL_len (f q:Nat→Nat) (p:List UInt8):(sdL f q p).length=p.length+16:=by unfold sdL seL;rw [List.length_append,liB_len];unfold ctL;rw [liB_len]
def dgL (f:Nat→Nat) (d x t e:Nat) (p:List UInt8):List UInt8:=hdL d x++sdL f (nqF d x) (plL t e p)
theorem dgL_len (f:Nat→Nat) (d x t e:Nat) (p:List UInt8):(dgL f d x t e p).length=p.length+28:=by unfold dgL;rw [List.length_append,hdL_len,sdL_len,plL_len];omega
theorem dgL_head (f:Nat→Nat) (d x t e:Nat) (p:List UInt8):(dgL f d x t e p).take 8=hdL d x:=by unfold dgL;exact List.take_left' (hdL_len d x)
theorem dgL_tail (f:Nat→Nat) (d x t e:Nat) (p:List UInt8):(dgL f d x t e p).drop 8=sdL f (nqF d x) (plL t e p):=by unfold dgL;exact List.drop_left' (hdL_len d x)
def doC (f q:Nat→Nat) (l:List UInt8):Nat:=opC f (enF f zF) (kaF f q) [] l
def doL (f q:Nat→Nat) (l:List UInt8):List UInt8:=opL f (enF f zF) (kaF f q) [] l
def dcQ (l:List UInt8):Nat→Nat:=nqF (hdD (l.take 8)) (hdX (l.take 8))
def dcC (f:Nat→Nat) (l:List UInt8):Nat:=if l.length<28 then 1 else if 1228<l.length then 2 else doC f (dcQ l) (l.drop 8)
def dcP (f:Nat→Nat) (l:List UInt8):List UInt8:=doL f (dcQ l) (l.drop 8)
section
variable {f:Nat→Nat} {d x t e n:Nat} {p l:List UInt8}
theorem dcC_short (hl:l.length=n) (h:n<28):dcC f l=1:=by unfold dcC;rw [if_pos (by omega)]
theorem dcC_long (hl:l.length=n) (h:1228<n):dcC f l=2:=by unfold dcC;rw [if_neg (by omega),if_pos (by omega)]
theorem dcC_mid (hl:l.length=n) (h1:28≤n) (h2:n≤1228):dcC f l=doC f (dcQ l) (l.drop 8):=by unfold dcC;rw [if_neg (by omega),if_neg (by omega)]
theorem dc_dg (hf:B16 f) (hd:d<2) (hx:x<9223372036854775808) (hp:p.length≤1200):dcC f (dgL f d x t e p)=0∧dcP f (dgL f d x t e p)=plL t e p:=by
 have hq:dcQ (dgL f d x t e p)=nqF d x:=by unfold dcQ;rw [dgL_head,hdD_hd hd hx,hdX_hd hd hx]
 have hs:B16 (enF f zF):=enR_lt hf zF_lt 10
 have h:=op_se (f:=f) (s:=enF f zF) (a:=kaF f (nqF d x)) hf hs (kaF_lt hf (nqF_lt d x)) (plL t e p) []
 rw [dcC_mid (dgL_len f d x t e p) (by omega) (by omega)]
 unfold dcP
 rw [hq,dgL_tail]
 exact h
theorem dc_sp (hl:l.length=n) (h:dcC f l=0):28≤n∧n≤1228∧doC f (dcQ l) (l.drop 8)=0:=by
 rcases Nat.lt_or_ge n 28 with h1|h1
 ·rw [dcC_short hl h1]at h;cases h
 ·rcases Nat.lt_or_ge 1228 n with h2|h2
  ·rw [dcC_long hl h2]at h;cases h
  ·rw [dcC_mid hl h1 h2]at h;exact⟨h1,h2,h⟩
theorem dcP_len (hl:l.length=n) (h:dcC f l=0):(dcP f l).length+24=n:=by
 obtain⟨h1,h2,h3⟩:=dc_sp hl h
 have h4:(l.drop 8).length=n-8:=by rw [List.length_drop,hl]
 have:=opL_len (f:=f) (s:=enF f zF) (a:=kaF f (dcQ l)) (d:= []) h4 h3
 unfold dcP doL
 omega
theorem dg_dc (hf:B16 f) (hl:l.length=n) (h:dcC f l=0):dgL f (hdD (l.take 8)) (hdX (l.take 8)) (tmT (dcP f l)) (tmE (dcP f l)) ((dcP f l).drop 4)=l:=by
 obtain⟨h1,h2,h3⟩:=dc_sp hl h
 have h4:(l.drop 8).length=n-8:=by rw [List.length_drop,hl]
 have h5:=dcP_len hl h
 unfold dgL
 rw [plL_of (by omega),hd_of (by rw [List.length_take,hl];omega)]
 have h6:sdL f (dcQ l) (dcP f l)=l.drop 8:=by
  have:=seal_op (f:=f) (s:=enF f zF) (a:=kaF f (dcQ l)) (d:= []) hf (enR_lt hf zF_lt 10) (kaF_lt hf (nqF_lt _ _)) h4 h3
  exact this
 rw [show nqF (hdD (l.take 8)) (hdX (l.take 8))=dcQ l from rfl,h6,List.take_append_drop]
theorem dcC_four (hl:l.length=n):dcC f l=0∨dcC f l=1∨dcC f l=2∨dcC f l=3:=by
 rcases Nat.lt_or_ge n 28 with h1|h1
 ·exact .inr (.inl (dcC_short hl h1))
 ·rcases Nat.lt_or_ge 1228 n with h2|h2
  ·exact .inr (.inr (.inl (dcC_long hl h2)))
  ·rw [dcC_mid hl h1 h2]
   rcases opC_three f (enF f zF) (kaF f (dcQ l)) [] (l.drop 8)with h|h|h
   ·exact .inl h
   ·exact .inr (.inl h)
   ·exact .inr (.inr (.inr h))
def dvD (f:Nat→Nat) (l:List UInt8):Nat:=if dcC f l=0 then hdD (l.take 8)else 0
def dvX (f:Nat→Nat) (l:List UInt8):Nat:=if dcC f l=0 then hdX (l.take 8)else 0
def dvT (f:Nat→Nat) (l:List UInt8):Nat:=if dcC f l=0 then tmT (dcP f l)else 0
def dvE (f:Nat→Nat) (l:List UInt8):Nat:=if dcC f l=0 then tmE (dcP f l)else 0
def dvL (f:Nat→Nat) (l:List UInt8):List UInt8:=if dcC f l=0 then(dcP f l).drop 4 else []
theorem dv_no (h:dcC f l≠0):dvD f l=0∧dvX f l=0∧dvT f l=0∧dvE f l=0∧dvL f l= []:=by
 unfold dvD dvX dvT dvE dvL
 rw [if_neg h,if_neg h,if_neg h,if_neg h,if_neg h]
 exact⟨rfl,rfl,rfl,rfl,rfl⟩
theorem dv_yes (h:dcC f l=0):dvD f l=hdD (l.take 8)∧dvX f l=hdX (l.take 8)∧dvT f l=tmT (dcP f l)∧dvE f l=tmE (dcP f l)∧dvL f l=(dcP f l).drop 4:=by
 unfold dvD dvX dvT dvE dvL
 rw [if_pos h,if_pos h,if_pos h,if_pos h,if_pos h]
 exact⟨rfl,rfl,rfl,rfl,rfl⟩
end
end Go.Proofs.YtiacbphnclgikaaGreatDoor
