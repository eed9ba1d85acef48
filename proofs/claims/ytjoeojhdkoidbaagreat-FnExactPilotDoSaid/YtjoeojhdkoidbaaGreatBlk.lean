import Derived.Test.YtjoeojhdkoidbaaGreatShp
import Derived.RangeFuncRecord
namespace Go.Proofs.YtjoeojhdkoidbaaGreat
open Go.RowKit Tryz
def Blk (g:Nat) (cs:Array Value) (t:TypeId) (w:World):Prop:=w.heap[g]?=some (.cells cs t (0,0))
theorem Blk.lt {g:Nat} {cs:Array Value} {t:TypeId} {w:World} (h:Blk g cs t w):g<w.heap.size:=(Array.getElem?_eq_some_iff.1 h).1
theorem Blk.below {g:Nat} {cs:Array Value} {t:TypeId} {w w':World} {B:Nat} (h:Blk g cs t w) (hb:Below B w w') (hB:g<B):Blk g cs t w':=(hb.block g hB).trans h
theorem Blk.drew {g:Nat} {cs:Array Value} {t:TypeId} {w:World} (h:Blk g cs t w):Blk g cs t w.drew:=h
theorem Blk.cell {g:Nat} {cs:Array Value} {t:TypeId} {w:World} (h:Blk g cs t w) {o:Nat} {v:Value} (hv:cs[o]?=some v):w.cell? ⟨g,o,none⟩=some v:=by simp [World.cell?,show w.heap[g]?=_ from h,hv]
theorem Blk.frozen {g:Nat} {cs:Array Value} {t:TypeId} {w:World} (h:Blk g cs t w) (o:Nat):w.frozen? ⟨g,o,none⟩=false:=by simp [World.frozen?,show w.heap[g]?=_ from h]
theorem Blk.range {g:Nat} {cs:List Value} {t:TypeId} {w:World} (h:Blk g cs.toArray t w):w.rangeAt g 0 cs:=fun j v hj=>by rw [Nat.zero_add];exact h.cell (by simpa using hj)
theorem Blk.alloc (w:World) (cs:Array Value) (t:TypeId):Blk w.heap.size cs t (w.alloc (.cells cs t)):=World.alloc_heap_new w _
theorem Blk.other {g:Nat} {cs:Array Value} {t:TypeId} {w:World} (h:Blk g cs t w) {a:Addr} (hne:g≠a.block) (v:Value):Blk g cs t (w.setCell a v):=(Below.heap_setCell w a v g hne).trans h
theorem Blk.set {g:Nat} {cs:Array Value} {t:TypeId} {w:World} (h:Blk g cs t w) (o:Nat) (v:Value):Blk g (cs.setIfInBounds o v) t (w.setCell ⟨g,o,none⟩ v):=by
 obtain ⟨hlt,hk⟩:=Array.getElem?_eq_some_iff.1 h;show (w.heap.modify g _)[g]?=_
 rw [Array.getElem?_eq_getElem (by rw [Array.size_modify];exact hlt),Array.getElem_modify_self,hk];rfl
theorem Blk.there {g:Nat} {cs:Array Value} {t:TypeId} {w:World} (h:Blk g cs t w):w.there g 0 cs.size:=fun j hj=>by
 refine ⟨?_,h.frozen _⟩;rw [h.cell (o:=0+j) (v:=cs[j]) (by simp [hj])];rfl
theorem Blk.rangeA {g:Nat} {cs:Array Value} {t:TypeId} {w:World} (h:Blk g cs t w):w.rangeAt g 0 cs.toList:=fun j v hj=>by
 rw [Nat.zero_add];exact h.cell (by simpa using hj)
theorem qLk {ops:Array Oper} {rest:List Oper} {op:Oper} {a:Act} {w:World} {Q:Exit→Act→World→Prop} {ty n b:Nat} {l:Array Value} (r:Rk ty n) (H:Hid (Blk b l ty w)) (h:wpList prog ops Q rest (a.put op.dst (.agg l)) w) {x:Operand} (ho:op.op=.load ty x:=by rfl) (hg:op.guard=none:=by rfl) (hx:a.eval x=.pointer (some ⟨b,0,none⟩):=by first | rfl | (simp [go_sem];done)) (hn:n=l.toList.length:=by rfl):wpList prog ops Q (op::rest) a w:=by
 subst hn;obtain ⟨d,h1,h2,h3⟩:=r;exact wpList_load_mid hg ty x ho b 0 hx l.toList d H.out.rangeA h1 h2 h3 (by simpa using h)
theorem qBk {g:Nat} {cs:Array Value} {t:TypeId} {w w':World} (h:Hid (Blk g cs t w)) (hb:Below w.heap.size w w'):Hid (Blk g cs t w'):=h.out.below hb h.out.lt
theorem qRb {g:Nat} {cs:Array Value} {t:TypeId} {w:World} (h:Blk g cs t w) (o:Nat) (l:List Value) (e:(cs.toList.drop o).take l.length=l:=by rfl):w.rangeAt g o l:=fun j v hj=>h.cell (by
 have hl:j<l.length:=Ah hj;rw [← e,List.getElem?_take_of_lt hl,List.getElem?_drop] at hj;rw [← Array.getElem?_toList]
 exact hj)
theorem qRa (w:World) (cs:Array Value) (t:TypeId) (l:List Value) (e:cs.toList=l:=by rfl):Hid ((w.alloc (Obj.cells cs t)).rangeAt w.heap.size 0 l):=by
 subst e;exact (Blk.alloc w cs t).rangeA
theorem al2 (w:World) (L:Array Value) (t:TypeId) (M:Array Value) (u:TypeId):Hid (Blk (w.heap.size+1) M u ((w.alloc (Obj.cells L t)).alloc (Obj.cells M u))):=by
 have:=Blk.alloc (w.alloc (Obj.cells L t)) M u;show Blk _ _ _ _
 simpa using this
theorem bl2 (w:World) (L:Array Value) (t:TypeId) (M:Array Value) (u:TypeId):Below w.heap.size w ((w.alloc (Obj.cells L t)).alloc (Obj.cells M u)):=((Below.refl _ w).alloc (Nat.le_refl _) _).alloc (by simp) _
end Go.Proofs.YtjoeojhdkoidbaaGreat
