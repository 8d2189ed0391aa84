/-
 Contract of Encode of the reference package of layer 17, by a walk through its text; what was there stays as it was.
-/
import Derived.Test.YtiacbphnclgikaaDoorPka
import Derived.Test.YtiacbphnclgikaaDoorPkb
import Derived.Test.YtiacbphnclgikaaDoorGnc
import Derived.Test.YtiacbphnclgikaaDoorSec
import Derived.Test.YtiacbphnclgikaaDoorSew
import Derived.ArgAppend
import Derived.Deep.RegionHeld3
namespace Go.Proofs.YtiacbphnclgikaaDoor
open Go.RowKit
set_option linter.unusedVariables false
set_option maxRecDepth 100000
set_option linter.unusedSimpArgs false
open Go.Shelf
theorem wp_append_grow {P:Program} (w:World) {o:Oper} {a:Act} {K:Act→World→Prop} {Q:Exit→Act→World→Prop} (s x:Operand) (t:TypeId)
  (ho:o.op= .call { callee:= .builtin .append,args:= #[s,x],argTypes:= #[t,t] })
  (e:TypeId) (i:TypeInfo) (z:Value) (h1:P.underlying t=some (.slice e)) (h2:P.info? e=some i) (h3:i.zero=some z) (h4:i.size=1) (h5:i.bytes=1) (h6:z.cells.size=1)
  (b:Addr) (n cap:Nat) (olds:List Value) (hs:a.eval s= .slice (some b) n cap) (hlo:olds.length=n) (holds: ∀j u,olds[j]?=some u→w.cell? (b.add j)=some u)
  (ad:Addr) (m c:Nat) (news:List Value) (hx:a.eval x= .slice (some ad) m c) (hl:news.length=m) (hnews: ∀j u,news[j]?=some u→w.cell? (ad.add j)=some u) (h1c: ∀u∈news,u.oneCell'=true)
  (hg:cap<n+m) (b1:n+m≤maxLen) (b2:n+m≤140737488355328)
  (h: ∀v' w',w'.ownsRow w.heap.size e 1 v' (n+m) (olds++news)→w.grownBy w' none→K (a.put o.dst v') w'):o.wp P a w K Q:=by
 obtain⟨v',w',hrun,r1,r2⟩:=run_append_arg_grows (P:=P) w t o.type e i z 1 1 h1 h2 h3 h4 h5 h6 (by omega) b n cap olds (by omega) holds ad m c news (by omega) hnews hg b1 (by omega)
 unfold Oper.wp execOp
 simp only [ho,resolve,invoke,builtin,Sem.run_bind,Sem.run_pure,Result.andThen_ok,List.map_toArray,List.map_cons,List.map_nil,hs,hx,hrun]
 exact h v' w' r1 r2
theorem slice8p (g:Nat) (w:World):(Instr.sliceAt 71 (.pointer (some ⟨g,0,none⟩)) none none none).run Tryd.prog w= .ok (.slice (some ⟨g,0,none⟩) 8 8) w:=by
 have hal:Tryd.prog.arrayLen 71=8:=by simp [Program.arrayLen]
 have hel:Tryd.prog.elem 71=5:=by simp [Program.elem]
 have hs:(sizeOf 5).run Tryd.prog w= .ok 1 w:=by kernel_rfl
 rw [run_sliceAt_array_all w 71 ⟨g,0,none⟩ (by rw [hal,hel];exact Tryd.arr8n),hal,hel,hs]
 simp [Result.andThen_ok,slicedAt,Addr.add]
theorem hb_map (t e:Nat) (ht:t<65536) (he:e<65536):(hbL t e).map b8= [.int .u8 ((t/256:Nat):Int),.int .u8 ((t%256:Nat):Int),.int .u8 ((e/256:Nat):Int),.int .u8 ((e%256:Nat):Int)]:=by
 unfold hbL
 simp only [List.map_cons,List.map_nil]
 rw [b8_ofNat _ (by omega),b8_ofNat _ (by omega),b8_ofNat _ (by omega),b8_ofNat _ (by omega)]
end Go.Proofs.YtiacbphnclgikaaDoor
