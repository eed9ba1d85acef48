import Derived.Test.YthboopnmbglkjaaGreatProg
import Derived.WalkKit
import Derived.Below
import Derived.Deep.MidRow
namespace Go.Proofs.YthboopnmbglkjaaGreat
open Go.RowKit Tryz
abbrev E(b o:Nat):Addr:=⟨b,o,none⟩
abbrev O(b o:Nat):Option Addr:=some ⟨b,o,none⟩
abbrev X(x:Int):Value:=.int .i64 x
abbrev bW(w v:World):Prop:=Below w.heap.size w v
abbrev pP(b o:Nat):Value:=.pointer (some ⟨b,o,none⟩)
abbrev sP(b o n c:Nat):Value:=.slice (some ⟨b,o,none⟩) n c
abbrev Y(s:ByteArray):Value:=.string s
theorem nL{n:Nat}:n<=n:=Nat.le_refl n
theorem iH{p:Prop}(h:p):Hid p:=h
abbrev OA:=Option Addr
abbrev BA:=ByteArray
abbrev Rt(v:Value)(w:World):Ending->World->Prop:=λe w'=>e=.returned v/\Below w.heap.size w w'
def Po(ty n:Nat):Prop:=∃d,prog.underlying ty=some d/\d.isRow=true/\(prog.info? ty).map (·.size)=some n
theorem qLr{ops:Array Oper}{rest:List Oper}{op:Oper}{a:Act}{w:World}{Q:Exit->Act->World->Prop}{ty n b o:Nat}{l:List Value}(r:Po ty n)(H:Hid (w.rangeAt b o l))(h:wpList prog ops Q rest (a.put op.dst (.agg l.toArray)) w){x:Operand}(ho:op.op=.load ty x:=by rfl)(hg:op.guard=none:=by rfl)(hx:a.eval x=.pointer (some ⟨b,o,none⟩):=by first|rfl|(simp[go_sem];done))(hn:n=l.length:=by rfl):wpList prog ops Q (op::rest) a w:=by
 subst hn;obtain⟨d,h1,h2,h3⟩:=r;exact wpList_load_mid hg ty x ho b o hx l d H h1 h2 h3 h
theorem gE{α:Type}{l:List α}{k:Nat}(h:k<l.length):l[k]?=some l[k]:=List.getElem?_eq_getElem h
theorem gXe{α:Type}{l:List α}{k:Nat}(h:k<l.length):∃x,l[k]?=some x:=⟨l[k],gE h⟩
theorem lL{a b c:Nat}(h:a<b)(h':b<=c):a<c:=Nat.lt_of_lt_of_le h h'
theorem lT{a b c:Nat}(h:a<=b)(h':b<=c):a<=c:=Nat.le_trans h h'
theorem zL{a:Nat}:0<=a:=Nat.zero_le a
theorem lE{a b:Nat}(h:a<b):a<=b:=Nat.le_of_lt h
theorem qTr{a b c:World}(h:Below a.heap.size a b)(h':Below b.heap.size b c):Below a.heap.size a c:=h.trans (h'.mono h.size)
theorem qTH{a b c:World}(h:Hid (Below a.heap.size a b))(h':Below b.heap.size b c):Hid (Below a.heap.size a c):=h.out.trans (h'.mono h.out.size)
end Go.Proofs.YthboopnmbglkjaaGreat
