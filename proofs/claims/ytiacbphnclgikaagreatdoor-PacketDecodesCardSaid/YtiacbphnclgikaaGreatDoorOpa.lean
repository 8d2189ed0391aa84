/-
 Opening as functions on bytes: the plaintext of a ciphertext, and that it is the one whose ciphertext it is; which bytes are opened, and to what. No condition.
-/
import Derived.Test.YtiacbphnclgikaaGreatDoorSea
namespace Go.Proofs.YtiacbphnclgikaaGreatDoor
open Go.RowKit
set_option linter.unusedVariables false
set_option maxRecDepth 100000
def opF (f p a:Nat→Nat):Nat→Nat:=adF (deF f (adF p a)) a
def dtF (f s a:Nat→Nat) (l:List UInt8) (N j:Nat):Nat:=
 if j<16*N then opF f (pt l (j/16)) (atF a s (j/16+1)) (j%16)else lF l j^^^enF f (adF (atF a s N) s) (j-16*N)
def dtL (f s a:Nat→Nat) (l:List UInt8):List UInt8:=liB l.length (dtF f s a l (l.length/16))
section
variable {f s a p:Nat→Nat}
theorem opF_lt (hf:B16 f) (hp:B16 p) (ha:B16 a):B16 (opF f p a):=adF_lt (deR_lt hf 10 (adF_lt hp ha)) ha
theorem cp_op (hf:B16 f) (hp:B16 p) (ha:B16 a):E16 (cpF f (opF f p a) a) p:=fun j hj=>by
 have h1:E16 (adF (opF f p a) a) (deF f (adF p a)):=ad_ad _ _
 have h2:E16 (enF f (adF (opF f p a) a)) (adF p a):=fun i hi=>(enR_congr f h1 10 i hi).trans (en_de hf 10 (adF_lt hp ha) i hi)
 show adF (enF f (adF (opF f p a) a)) a j=p j
 rw [adF_congr h2 (fun _ _=>rfl) j hj]
 exact ad_ad _ _ j hj
theorem op_cp (hf:B16 f) (hp:B16 p) (ha:B16 a):E16 (opF f (cpF f p a) a) p:=fun j hj=>by
 have h1:E16 (adF (cpF f p a) a) (enF f (adF p a)):=ad_ad _ _
 have h2:E16 (deF f (adF (cpF f p a) a)) (adF p a):=fun i hi=>(deR_congr f 10 h1 i hi).trans (de_en hf (adF_lt hp ha) 10 i hi)
 show adF (deF f (adF (cpF f p a) a)) a j=p j
 rw [adF_congr h2 (fun _ _=>rfl) j hj]
 exact ad_ad _ _ j hj
theorem opF_congr {q:Nat→Nat} (h:E16 p q):E16 (opF f p a) (opF f q a):=adF_congr (deR_congr f 10 (adF_congr h (fun _ _=>rfl))) (fun _ _=>rfl)
theorem cpF_congr {q:Nat→Nat} (h:E16 p q):E16 (cpF f p a) (cpF f q a):=adF_congr (enR_congr f (adF_congr h (fun _ _=>rfl)) 10) (fun _ _=>rfl)
theorem dtF_lt (hf:B16 f) (hs:B16 s) (ha:B16 a) (l:List UInt8) (N j:Nat) (hj:j<16*N+16):dtF f s a l N j<256:=by
 unfold dtF
 split
 ·exact opF_lt hf (fun _ _=>pt_lt _ _ _) (atF_lt ha hs _) _ (Nat.mod_lt _ (by decide))
 ·exact Nat.xor_lt_two_pow (n:=8) (lF_lt _ _) (enR_lt hf (adF_lt (atF_lt ha hs _) hs) 10 _ (by omega))
theorem dtL_len (l:List UInt8):(dtL f s a l).length=l.length:=liB_len _ _
theorem lF_ext {x y:List UInt8} (hl:x.length=y.length) (h: ∀j,j<y.length→lF x j=lF y j):x=y:=by
 apply List.ext_getElem hl
 intro j h1 h2
 have h3:=h j h2
 simp only [lF,List.getD,List.getElem?_eq_getElem h1,List.getElem?_eq_getElem h2,Option.getD_some]at h3
 exact UInt8.toNat_inj.1 h3
theorem lF_dt (hf:B16 f) (hs:B16 s) (ha:B16 a) (l:List UInt8) (j:Nat) (hj:j<l.length):lF (dtL f s a l) j=dtF f s a l (l.length/16) j:=
 lF_liB _ _ (fun i hi=>dtF_lt hf hs ha l _ i (by omega)) j hj
theorem lF_ct (hf:B16 f) (hs:B16 s) (ha:B16 a) (l:List UInt8) (j:Nat) (hj:j<l.length):lF (ctL f s a l) j=ctF f s a l (l.length/16) j:=
 lF_liB _ _ (fun i hi=>ctF_lt hf hs ha l _ i (by omega)) j hj
theorem pt_dt (hf:B16 f) (hs:B16 s) (ha:B16 a) (l:List UInt8) (k:Nat) (hk:k<l.length/16):E16 (pt (dtL f s a l) k) (opF f (pt l k) (atF a s (k+1))):=fun j hj=>by
 unfold pt
 rw [lF_dt hf hs ha l _ (by omega)]
 unfold dtF
 rw [if_pos (by omega),show(16*k+j)/16=k by omega,show(16*k+j)%16=j by omega]
 rfl
theorem pt_ct (hf:B16 f) (hs:B16 s) (ha:B16 a) (l:List UInt8) (k:Nat) (hk:k<l.length/16):E16 (pt (ctL f s a l) k) (cpF f (pt l k) (atF a s (k+1))):=fun j hj=>by
 unfold pt
 rw [lF_ct hf hs ha l _ (by omega)]
 unfold ctF
 rw [if_pos (by omega),show(16*k+j)/16=k by omega,show(16*k+j)%16=j by omega]
 rfl
theorem pt_at (l:List UInt8) (j:Nat):pt l (j/16) (j%16)=lF l j:=by
 unfold pt
 congr 1
 omega
theorem ct_dt (hf:B16 f) (hs:B16 s) (ha:B16 a) (l:List UInt8):ctL f s a (dtL f s a l)=l:=by
 have hl:(dtL f s a l).length=l.length:=dtL_len l
 refine lF_ext ((liB_len _ _).trans hl) (fun j hj=> ?_)
 rw [lF_ct hf hs ha _ j (by rw [hl];exact hj),hl]
 unfold ctF
 by_cases h:j<16*(l.length/16)
 ·rw [if_pos h,cpF_congr (pt_dt hf hs ha l (j/16) (by omega)) (j%16) (Nat.mod_lt _ (by decide)),cp_op hf (fun _ _=>pt_lt _ _ _) (atF_lt ha hs _) (j%16) (Nat.mod_lt _ (by decide))];exact pt_at l j
 ·rw [if_neg h,lF_dt hf hs ha l j hj]
  unfold dtF
  rw [if_neg h]
  exact xor_cancel _ _
theorem dt_ct (hf:B16 f) (hs:B16 s) (ha:B16 a) (l:List UInt8):dtL f s a (ctL f s a l)=l:=by
 have hl:(ctL f s a l).length=l.length:=liB_len _ _
 refine lF_ext ((liB_len _ _).trans hl) (fun j hj=> ?_)
 rw [lF_dt hf hs ha _ j (by rw [hl];exact hj),hl]
 unfold dtF
 by_cases h:j<16*(l.length/16)
 ·rw [if_pos h,opF_congr (pt_ct hf hs ha l (j/16) (by omega)) (j%16) (Nat.mod_lt _ (by decide)),op_cp hf (fun _ _=>pt_lt _ _ _) (atF_lt ha hs _) (j%16) (Nat.mod_lt _ (by decide))];exact pt_at l j
 ·rw [if_neg h,lF_ct hf hs ha l j hj]
  unfold ctF
  rw [if_neg h]
  exact xor_cancel _ _
end
theorem dt_part (f s a:Nat→Nat) (l:List UInt8) (N k:Nat) (hk:k<N):liB (16*(k+1)) (dtF f s a l N)=liB (16*k) (dtF f s a l N)++liB 16 (opF f (pt l k) (atF a s (k+1))):=by
 rw [show 16*(k+1)=16*k+16 by omega,liB_snoc]
 congr 1
 refine liB_ext (fun j hj=> ?_)
 unfold dtF
 rw [if_pos (by omega),show(16*k+j)/16=k by omega,show(16*k+j)%16=j by omega]
theorem dt_rest (f s a:Nat→Nat) (l:List UInt8) (N i:Nat) (hi:16*N≤i):liB (i+1) (dtF f s a l N)=liB i (dtF f s a l N)++ [UInt8.ofNat (lF l i^^^enF f (adF (atF a s N) s) (i-16*N))]:=by
 rw [liB_snoc]
 congr 1
 show [UInt8.ofNat (dtF f s a l N (i+0))]=_
 unfold dtF
 rw [Nat.add_zero,if_neg (by omega)]
theorem dt_eq {f s a:Nat→Nat} {l:List UInt8} {n N:Nat} (hl:l.length=n) (hN:n/16=N):liB n (dtF f s a l N)=dtL f s a l:=by
 subst hl;subst hN;rfl
def otF (f s a:Nat→Nat) (d l:List UInt8) (n:Nat):Nat→Nat:=tgF f s (csF (dtL f s a (l.take n))) (ofF s a n) d
def opC (f s a:Nat→Nat) (d l:List UInt8):Nat:=if l.length<16 then 1 else if liB 16 (otF f s a d l (l.length-16))=l.drop (l.length-16)then 0 else 3
def opL (f s a:Nat→Nat) (d l:List UInt8):List UInt8:=if opC f s a d l=0 then dtL f s a (l.take (l.length-16))else []
section
variable {f s a:Nat→Nat} {d l:List UInt8} {m n:Nat}
theorem opC_short (hl:l.length=m) (h:m<16):opC f s a d l=1:=by unfold opC;rw [if_pos (by omega)]
theorem opC_ok (hl:l.length=m) (hn:m-16=n) (h:16≤m) (ht:liB 16 (otF f s a d l n)=l.drop n):opC f s a d l=0:=by
 subst hl;subst hn;unfold opC;rw [if_neg (by omega),if_pos ht]
theorem opC_no (hl:l.length=m) (hn:m-16=n) (h:16≤m) (ht:liB 16 (otF f s a d l n)≠l.drop n):opC f s a d l=3:=by
 subst hl;subst hn;unfold opC;rw [if_neg (by omega),if_neg ht]
theorem opL_ok (hl:l.length=m) (hn:m-16=n) (h:opC f s a d l=0):opL f s a d l=dtL f s a (l.take n):=by subst hl;subst hn;unfold opL;rw [if_pos h]
theorem opL_no (h:opC f s a d l≠0):opL f s a d l= []:=by unfold opL;rw [if_neg h]
theorem opC_three (f s a:Nat→Nat) (d l:List UInt8):opC f s a d l=0∨opC f s a d l=1∨opC f s a d l=3:=by
 unfold opC
 split
 ·exact .inr (.inl rfl)
 ·split
  ·exact .inl rfl
  ·exact .inr (.inr rfl)
theorem se_op (hf:B16 f) (hs:B16 s) (ha:B16 a) (hl:l.length=m) (hn:m-16=n) (h:16≤m):seL f s a (dtL f s a (l.take n)) (otF f s a d l n)=l.take n++liB 16 (otF f s a d l n):=by
 unfold seL;rw [ct_dt hf hs ha]
theorem se_op_ok (hf:B16 f) (hs:B16 s) (ha:B16 a) (hl:l.length=m) (hn:m-16=n) (h:16≤m) (ht:liB 16 (otF f s a d l n)=l.drop n):seL f s a (dtL f s a (l.take n)) (otF f s a d l n)=l:=by
 rw [se_op hf hs ha hl hn h,ht,List.take_append_drop]
theorem se_op_no (hf:B16 f) (hs:B16 s) (ha:B16 a) (hl:l.length=m) (hn:m-16=n) (h:16≤m) (ht:liB 16 (otF f s a d l n)≠l.drop n):seL f s a (dtL f s a (l.take n)) (otF f s a d l n)≠l:=fun e=>by
 rw [se_op hf hs ha hl hn h]at e
 have h2:(l.take n++liB 16 (otF f s a d l n)).drop n=l.drop n:=by rw [e]
 have h3:(l.take n).length=n:=by rw [List.length_take];omega
 apply ht
 rw [←h2]
 exact(List.drop_left' h3).symm
theorem op_se (hf:B16 f) (hs:B16 s) (ha:B16 a) (p d:List UInt8):opC f s a d (seL f s a p (tgF f s (csF p) (ofF s a p.length) d))=0∧opL f s a d (seL f s a p (tgF f s (csF p) (ofF s a p.length) d))=p:=by
 obtain⟨t,ht⟩: ∃t,tgF f s (csF p) (ofF s a p.length) d=t:=⟨_,rfl⟩
 have hc:(ctL f s a p).length=p.length:=liB_len _ _
 have hl:(seL f s a p t).length=p.length+16:=by unfold seL;rw [List.length_append,liB_len,hc]
 have h1:(seL f s a p t).take p.length=ctL f s a p:=by unfold seL;exact List.take_left' hc
 have h2:(seL f s a p t).drop p.length=liB 16 t:=by unfold seL;exact List.drop_left' hc
 have h3:otF f s a d (seL f s a p t) p.length=t:=by unfold otF;rw [h1,dt_ct hf hs ha];exact ht
 rw [ht]
 have h4:opC f s a d (seL f s a p t)=0:=opC_ok hl (Nat.add_sub_cancel ..) (by omega) (by rw [h2,h3])
 refine⟨h4,?_⟩
 rw [opL_ok hl (Nat.add_sub_cancel ..) h4,h1,dt_ct hf hs ha]
end
end Go.Proofs.YtiacbphnclgikaaGreatDoor
