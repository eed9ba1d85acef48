import Derived.Test.YtkiloaiffopllaaGreatShp
import Derived.RangeFuncRecord
import Derived.Shelf.SlIter.Nil
import Derived.Shelf.SortM.Plain
import Derived.Shelf.SortM.SortNone
import Derived.KernelRfl
set_option maxHeartbeats 2000000
set_option maxRecDepth 100000
namespace Go.Proofs.YtkiloaiffopllaaGreat
open Go.RowKit
def Blk (g:Nat) (cs:Array Value) (t:TypeId) (w:World):Prop:=w.heap[g]?=some (.cells cs t (0,0))
theorem Blk.lt {g:Nat} {cs:Array Value} {t:TypeId} {w:World} (h:Blk g cs t w):g<w.heap.size:=(Array.getElem?_eq_some_iff.1 h).1
theorem Blk.below {g:Nat} {cs:Array Value} {t:TypeId} {w w':World} {B:Nat} (h:Blk g cs t w) (hb:Below B w w') (hB:g<B):Blk g cs t w':=(hb.block g hB).trans h
theorem Blk.drew {g:Nat} {cs:Array Value} {t:TypeId} {w:World} (h:Blk g cs t w):Blk g cs t w.drew:=h
theorem Blk.cell {g:Nat} {cs:Array Value} {t:TypeId} {w:World} (h:Blk g cs t w) {o:Nat} {v:Value} (hv:cs[o]?=some v):w.cell? ⟨g,o,none⟩=some v:=by simp [World.cell?,show w.heap[g]?=_ from h,hv]
theorem Blk.frozen {g:Nat} {cs:Array Value} {t:TypeId} {w:World} (h:Blk g cs t w) (o:Nat):w.frozen? ⟨g,o,none⟩=false:=by simp [World.frozen?,show w.heap[g]?=_ from h]
theorem Blk.range {g:Nat} {cs:List Value} {t:TypeId} {w:World} (h:Blk g cs.toArray t w):w.rangeAt g 0 cs:=fun j v hj=>by rw [Nat.zero_add];exact h.cell (by simpa using hj)
theorem Blk.alloc (w:World) (cs:Array Value) (t:TypeId):Blk w.heap.size cs t (w.alloc (.cells cs t)):=World.alloc_heap_new w _
theorem Blk.other {g:Nat} {cs:Array Value} {t:TypeId} {w:World} (h:Blk g cs t w) {a:Addr} (hne:g≠a.block) (v:Value):Blk g cs t (w.setCell a v):=(Below.heap_setCell w a v g hne).trans h
theorem Blk.set {g:Nat} {cs:Array Value} {t:TypeId} {w:World} (h:Blk g cs t w) (o:Nat) (v:Value):Blk g (cs.setIfInBounds o v) t (w.setCell ⟨g,o,none⟩ v):=by
 obtain ⟨hlt,hk⟩:=Array.getElem?_eq_some_iff.1 h;show (w.heap.modify g _)[g]?=_
 rw [Array.getElem?_eq_getElem (by rw [Array.size_modify];exact hlt),Array.getElem_modify_self,hk];rfl
theorem Blk.there {g:Nat} {cs:Array Value} {t:TypeId} {w:World} (h:Blk g cs t w):w.there g 0 cs.size:=fun j hj=>by
 refine ⟨?_,h.frozen _⟩;rw [h.cell (o:=0+j) (v:=cs[j]) (by simp [hj])];rfl
theorem Blk.rangeA {g:Nat} {cs:Array Value} {t:TypeId} {w:World} (h:Blk g cs t w):w.rangeAt g 0 cs.toList:=fun j v hj=>by
 rw [Nat.zero_add];exact h.cell (by simpa using hj)
theorem qLk {ops:Array Oper} {rest:List Oper} {op:Oper} {a:Act} {w:World} {Q:Exit→Act→World→Prop} {ty n b:Nat} {l:Array Value} (r:Nv ty n) (H:Hid (Blk b l ty w)) (h:wpList Tryz.prog ops Q rest (a.put op.dst (.agg l)) w) {x:Operand} (ho:op.op=.load ty x:=by rfl) (hg:op.guard=none:=by rfl) (hx:a.eval x=.pointer (some ⟨b,0,none⟩):=by first | rfl | (simp [go_sem];done)) (hn:n=l.toList.length:=by rfl):wpList Tryz.prog ops Q (op::rest) a w:=by
 subst hn;obtain ⟨d,h1,h2,h3⟩:=r;exact wpList_load_mid hg ty x ho b 0 hx l.toList d H.out.rangeA h1 h2 h3 (by simpa using h)
theorem qBk {g:Nat} {cs:Array Value} {t:TypeId} {w w':World} (h:Hid (Blk g cs t w)) (hb:Below w.heap.size w w'):Hid (Blk g cs t w'):=h.out.below hb h.out.lt
theorem qRb {g:Nat} {cs:Array Value} {t:TypeId} {w:World} (h:Blk g cs t w) (o:Nat) (l:List Value) (e:(cs.toList.drop o).take l.length=l:=by rfl):w.rangeAt g o l:=fun j v hj=>h.cell (by
 have hl:j<l.length:=Ah hj;rw [← e,List.getElem?_take_of_lt hl,List.getElem?_drop] at hj;rw [← Array.getElem?_toList]
 exact hj)
theorem qRa (w:World) (cs:Array Value) (t:TypeId) (l:List Value) (e:cs.toList=l:=by rfl):Hid ((w.alloc (Obj.cells cs t)).rangeAt w.heap.size 0 l):=by
 subst e;exact (Blk.alloc w cs t).rangeA
theorem al2 (w:World) (L:Array Value) (t:TypeId) (M:Array Value) (u:TypeId):Hid (Blk (w.heap.size+1) M u ((w.alloc (Obj.cells L t)).alloc (Obj.cells M u))):=by
 have:=Blk.alloc (w.alloc (Obj.cells L t)) M u;show Blk _ _ _ _
 simpa using this
theorem bl2 (w:World) (L:Array Value) (t:TypeId) (M:Array Value) (u:TypeId):Below w.heap.size w ((w.alloc (Obj.cells L t)).alloc (Obj.cells M u)):=((Below.refl _ w).alloc (Nat.le_refl _) _).alloc (by simp) _
end Go.Proofs.YtkiloaiffopllaaGreat
namespace Go.Proofs.YtkiloaiffopllaaGreat
open Go.RowKit Go.Maps Go.Sort Go.Shelf
def bM:Go.Shelf.Ren where
 f:=fun x=>match x with
  | 6=>120
  | 8=>130
  | 9=>131
  | 11=>142
  | 13=>144
  | 12=>143
  | 23=>165
  | 24=>166
  | 14=>156
  | 15=>157
  | 16=>158
  | 17=>159
  | 18=>160
  | 19=>161
  | 20=>162
  | 21=>163
  | 22=>164
  | 25=>178
  | 26=>179
  | 27=>180
  | 28=>181
  | 29=>182
  | 30=>183
  | 31=>190
  | n=>n
 t:=fun x=>match x with
  | 26=>9
  | 28=>146
  | 24=>143
  | 0=>0
  | 3=>3
  | 37=>168
  | 48=>181
  | 50=>183
  | 4=>4
  | 40=>173
  | 39=>172
  | 45=>178
  | 5=>5
  | 9=>9
  | 51=>190
  | 55=>194
  | 57=>196
  | 58=>197
  | 33=>80
  | n=>n
 g:=fun n=>n
theorem Zm:SlLaysZ.n6 Tryz.prog bM where
 mixed:=by kernel_rfl
 f6:=⟨Tryz.f120.name,of_decide_eq_true (by kernel_rfl),Tryz.func120.trans (congrArg some (by kernel_rfl))⟩
 f8:=⟨Tryz.f130.name,of_decide_eq_true (by kernel_rfl),Tryz.func130.trans (congrArg some (by kernel_rfl))⟩
 f11:=⟨Tryz.f142.name,of_decide_eq_true (by kernel_rfl),Tryz.func142.trans (congrArg some (by kernel_rfl))⟩
 t0:=Tryz.underlying0
 a0:=Tryz.isAgg0
 z0:=Tryz.sizeOf0
 v0:=Tryz.zeroValue0
 t24:=Tryz.underlying143
 a24:=Tryz.isAgg143
 z24:=Tryz.sizeOf143
 v24:=Tryz.zeroValue143
 t26:=Tryz.underlying9
 a26:=Tryz.isAgg9
 z26:=Tryz.sizeOf9
 v26:=Tryz.zeroValue9
 t28:=Tryz.underlying146
 a28:=Tryz.isAgg146
 z28:=Tryz.sizeOf146
 v28:=Tryz.zeroValue146
 i26:=by kernel_rfl
def cS:Go.Shelf.Ren where
 f:=fun x=>match x with
  | 6=>131
  | 8=>144
  | 9=>143
  | 19=>165
  | 20=>166
  | 21=>156
  | 22=>157
  | 23=>158
  | 24=>159
  | 25=>160
  | 26=>161
  | 27=>162
  | 28=>163
  | 29=>164
  | 36=>178
  | 31=>179
  | 32=>180
  | 37=>181
  | 38=>182
  | 39=>183
  | 41=>190
  | n=>n
 t:=fun x=>match x with
  | 27=>143
  | 29=>9
  | 3=>3
  | 32=>168
  | 26=>143
  | 0=>0
  | 44=>181
  | 46=>183
  | 4=>4
  | 36=>173
  | 35=>172
  | 41=>178
  | 5=>5
  | 9=>9
  | 53=>190
  | 57=>194
  | 63=>196
  | 64=>197
  | n=>n
 g:=fun n=>n
theorem Zv:SlLaysM.n6 Tryz.prog cS where
 mixed:=by kernel_rfl
 f6:=⟨Tryz.f131.name,of_decide_eq_true (by kernel_rfl),Tryz.func131.trans (congrArg some (by kernel_rfl))⟩
 f8:=Tryz.func144.trans (congrArg some (by kernel_rfl))
 f9:=⟨Tryz.f143.name,of_decide_eq_true (by kernel_rfl),Tryz.func143.trans (congrArg some (by kernel_rfl))⟩
 f19:=Tryz.func165.trans (congrArg some (by kernel_rfl))
 f20:=Tryz.func166.trans (congrArg some (by kernel_rfl))
 f21:=⟨Tryz.f156.name,of_decide_eq_true (by kernel_rfl),Tryz.func156.trans (congrArg some (by kernel_rfl))⟩
 f22:=⟨Tryz.f157.name,of_decide_eq_true (by kernel_rfl),Tryz.func157.trans (congrArg some (by kernel_rfl))⟩
 f23:=⟨Tryz.f158.name,of_decide_eq_true (by kernel_rfl),Tryz.func158.trans (congrArg some (by kernel_rfl))⟩
 f24:=⟨Tryz.f159.name,of_decide_eq_true (by kernel_rfl),Tryz.func159.trans (congrArg some (by kernel_rfl))⟩
 f25:=⟨Tryz.f160.name,of_decide_eq_true (by kernel_rfl),Tryz.func160.trans (congrArg some (by kernel_rfl))⟩
 f26:=⟨Tryz.f161.name,of_decide_eq_true (by kernel_rfl),Tryz.func161.trans (congrArg some (by kernel_rfl))⟩
 f27:=⟨Tryz.f162.name,of_decide_eq_true (by kernel_rfl),Tryz.func162.trans (congrArg some (by kernel_rfl))⟩
 f28:=⟨Tryz.f163.name,of_decide_eq_true (by kernel_rfl),Tryz.func163.trans (congrArg some (by kernel_rfl))⟩
 f29:=⟨Tryz.f164.name,of_decide_eq_true (by kernel_rfl),Tryz.func164.trans (congrArg some (by kernel_rfl))⟩
 f31:=Tryz.func179.trans (congrArg some (by kernel_rfl))
 f32:=Tryz.func180.trans (congrArg some (by kernel_rfl))
 f36:=⟨Tryz.f178.name,of_decide_eq_true (by kernel_rfl),Tryz.func178.trans (congrArg some (by kernel_rfl))⟩
 f37:=⟨Tryz.f181.name,of_decide_eq_true (by kernel_rfl),Tryz.func181.trans (congrArg some (by kernel_rfl))⟩
 f38:=⟨Tryz.f182.name,of_decide_eq_true (by kernel_rfl),Tryz.func182.trans (congrArg some (by kernel_rfl))⟩
 f39:=⟨Tryz.f183.name,of_decide_eq_true (by kernel_rfl),Tryz.func183.trans (congrArg some (by kernel_rfl))⟩
 f41:=⟨Tryz.f190.name,of_decide_eq_true (by kernel_rfl),Tryz.func190.trans (congrArg some (by kernel_rfl))⟩
 t0:=Tryz.underlying0
 a0:=Tryz.isAgg0
 z0:=Tryz.sizeOf0
 v0:=Tryz.zeroValue0
 t3:=Tryz.underlying3
 a3:=Tryz.isAgg3
 z3:=Tryz.sizeOf3
 v3:=Tryz.zeroValue3
 t4:=Tryz.underlying4
 a4:=Tryz.isAgg4
 z4:=Tryz.sizeOf4
 v4:=Tryz.zeroValue4
 t5:=Tryz.underlying5
 a5:=Tryz.isAgg5
 z5:=Tryz.sizeOf5
 v5:=Tryz.zeroValue5
 t9:=Tryz.underlying9
 a9:=Tryz.isAgg9
 z9:=Tryz.sizeOf9
 v9:=Tryz.zeroValue9
 t26:=Tryz.underlying143
 a26:=Tryz.isAgg143
 z26:=Tryz.sizeOf143
 v26:=Tryz.zeroValue143
 t27:=Tryz.underlying143
 a27:=Tryz.isAgg143
 z27:=Tryz.sizeOf143
 v27:=Tryz.zeroValue143
 t29:=Tryz.underlying9
 a29:=Tryz.isAgg9
 z29:=Tryz.sizeOf9
 v29:=Tryz.zeroValue9
 t32:=Tryz.underlying168
 a32:=Tryz.isAgg168
 z32:=Tryz.sizeOf168
 v32:=Tryz.zeroValue168
 t35:=Tryz.underlying172
 a35:=Tryz.isAgg172
 z35:=Tryz.sizeOf172
 v35:=Tryz.zeroValue172
 t36:=Tryz.underlying173
 a36:=Tryz.isAgg173
 z36:=Tryz.sizeOf173
 v36:=Tryz.zeroValue173
 t41:=Tryz.underlying178
 a41:=Tryz.isAgg178
 z41:=Tryz.sizeOf178
 v41:=Tryz.zeroValue178
 t44:=Tryz.underlying181
 a44:=Tryz.isAgg181
 z44:=Tryz.sizeOf181
 v44:=Tryz.zeroValue181
 t46:=Tryz.underlying183
 a46:=Tryz.isAgg183
 z46:=Tryz.sizeOf183
 v46:=Tryz.zeroValue183
 t53:=Tryz.underlying190
 a53:=Tryz.isAgg190
 z53:=Tryz.sizeOf190
 v53:=Tryz.zeroValue190
 t57:=Tryz.underlying194
 a57:=Tryz.isAgg194
 z57:=Tryz.sizeOf194
 v57:=Tryz.zeroValue194
 t63:=Tryz.underlying196
 a63:=Tryz.isAgg196
 z63:=Tryz.sizeOf196
 v63:=Tryz.zeroValue196
 t64:=Tryz.underlying197
 a64:=Tryz.isAgg197
 z64:=Tryz.sizeOf197
 v64:=Tryz.zeroValue197
def aF:Go.Shelf.Ren where
 f:=fun x=>match x with
  | 7=>121
  | 10=>132
  | n=>n
 t:=fun x=>match x with
  | 23=>118
  | 26=>9
  | 3=>88
  | 28=>146
  | 0=>0
  | 27=>145
  | 33=>80
  | 4=>4
  | n=>n
 g:=fun n=>n
theorem Va:SlLaysZ.n7 Tryz.prog aF where
 mixed:=by kernel_rfl
 f7:=⟨Tryz.f121.name,of_decide_eq_true (by kernel_rfl),Tryz.func121.trans (congrArg some (by kernel_rfl))⟩
 f10:=⟨Tryz.f132.name,of_decide_eq_true (by kernel_rfl),Tryz.func132.trans (congrArg some (by kernel_rfl))⟩
 t0:=Tryz.underlying0
 a0:=Tryz.isAgg0
 z0:=Tryz.sizeOf0
 v0:=Tryz.zeroValue0
 t4:=Tryz.underlying4
 a4:=Tryz.isAgg4
 z4:=Tryz.sizeOf4
 v4:=Tryz.zeroValue4
 t23:=Tryz.underlying118
 a23:=Tryz.isAgg118
 z23:=Tryz.sizeOf118
 v23:=Tryz.zeroValue118
 t26:=Tryz.underlying9
 a26:=Tryz.isAgg9
 z26:=Tryz.sizeOf9
 v26:=Tryz.zeroValue9
 t27:=Tryz.underlying145
 a27:=Tryz.isAgg145
 z27:=Tryz.sizeOf145
 v27:=Tryz.zeroValue145
 t28:=Tryz.underlying146
 a28:=Tryz.isAgg146
 z28:=Tryz.sizeOf146
 v28:=Tryz.zeroValue146
 t33:=Tryz.underlying80
 a33:=Tryz.isAgg80
 z33:=Tryz.sizeOf80
 v33:=Tryz.zeroValue80
def Vg:Go.Shelf.Ren where
 f:=fun x=>match x with
  | 7=>122
  | 10=>133
  | n=>n
 t:=fun x=>match x with
  | 23=>121
  | 26=>9
  | 3=>52
  | 28=>146
  | 0=>0
  | 27=>145
  | 33=>80
  | 4=>4
  | n=>n
 g:=fun n=>n
theorem Qt:SlLaysZ.n7 Tryz.prog Vg where
 mixed:=by kernel_rfl
 f7:=⟨Tryz.f122.name,of_decide_eq_true (by kernel_rfl),Tryz.func122.trans (congrArg some (by kernel_rfl))⟩
 f10:=⟨Tryz.f133.name,of_decide_eq_true (by kernel_rfl),Tryz.func133.trans (congrArg some (by kernel_rfl))⟩
 t0:=Tryz.underlying0
 a0:=Tryz.isAgg0
 z0:=Tryz.sizeOf0
 v0:=Tryz.zeroValue0
 t4:=Tryz.underlying4
 a4:=Tryz.isAgg4
 z4:=Tryz.sizeOf4
 v4:=Tryz.zeroValue4
 t23:=Tryz.underlying121
 a23:=Tryz.isAgg121
 z23:=Tryz.sizeOf121
 v23:=Tryz.zeroValue121
 t26:=Tryz.underlying9
 a26:=Tryz.isAgg9
 z26:=Tryz.sizeOf9
 v26:=Tryz.zeroValue9
 t27:=Tryz.underlying145
 a27:=Tryz.isAgg145
 z27:=Tryz.sizeOf145
 v27:=Tryz.zeroValue145
 t28:=Tryz.underlying146
 a28:=Tryz.isAgg146
 z28:=Tryz.sizeOf146
 v28:=Tryz.zeroValue146
 t33:=Tryz.underlying80
 a33:=Tryz.isAgg80
 z33:=Tryz.sizeOf80
 v33:=Tryz.zeroValue80
theorem Vp (m:Nat):AnyZ.SortsIn Tryz.prog bM Fence.wide m :=
 ⟨fun blk off cap ss W hH hblk hsz=>callsIn_wide.2 (AnyM.slices_Sort_string Zv blk off cap ss W hH hblk hsz),
  fun p cap W=>callsIn_wide.2 (AnyM.slices_Sort_string_none Zv p cap W)⟩
theorem Tq (mb:Option Nat) (W:World):CallsIn Fence.wide 5 Tryz.prog 121 #[.map mb] W fun e w'=>e=.returned (.func (.func 132) #[] #[.pointer (some ⟨W.heap.size,0,none⟩)])∧w'=W.alloc (.cells #[.map mb] 118) :=
 AnyZ.keys_in Va Fence.wide 5 trivial rfl mb W
theorem Pt {H:Type} (b nn:Nat) (D0:DataW H) (R:Value→Option (DataW H×List MemPlace)) (w:World) (hown:w.ownsMap Tryz.prog 9 R b nn D0) (hmax:Maps.size D0≤maxLen) (hbytes:Maps.size D0*16≤140737488355328) :
  CallsIn Fence.wide 5 Tryz.prog 120 #[.func (.func 132) #[] #[.pointer (some ⟨w.heap.size,0,none⟩)]] (w.alloc (.cells #[.map (some b)] 118)) fun e w'=>∃ (v:Value) (ss:List (List UInt8)),e=.returned v∧ss.Perm (strKeys D0) ∧
   w'.ownsRow (w.alloc (.cells #[.map (some b)] 118)).heap.size 9 1 v ss.length ((ss.mergeSort (fun x y=>decide (x≤y))).map encStr)∧(v=.slice none 0 0↔ss=[])∧Below (w.alloc (.cells #[.map (some b)] 118)).heap.size (w.alloc (.cells #[.map (some b)] 118)) w':=by
 have hbl:=hown.lt;have hseq:SeqGives Fence.wide 2 Tryz.prog 132 #[.pointer (some ⟨w.heap.size,0,none⟩)] encStr (fun ss=>ss.Perm (strKeys D0)) (Maps.size D0) (w.alloc (.cells #[.map (some b)] 118)) :=
  AnyZ.keys_gives (ρ:=aF) { Va with } Fence.wide _ trivial rfl (by omega) w.heap.size b nn D0 _ (by simp) (by simp) (by
   obtain ⟨es,clock,hb,Ft,hs,hD⟩:=hown
   exact ⟨es,clock,(Below.heap_alloc _ _ b hbl).trans hb,Ft,hs,hD⟩)
 exact AnyZ.sorted_in Zm Fence.wide 5 trivial trivial trivial trivial rfl (by omega) (Vp _) (enters_of Tryz.func131 (by kernel_rfl) rfl) 132 #[.pointer (some ⟨w.heap.size,0,none⟩)] trivial (enters_of Tryz.func132 (by kernel_rfl) rfl) _ _ hmax hbytes _ hseq
theorem Sc (mb:Option Nat) (W:World):CallsIn Fence.wide 5 Tryz.prog 122 #[.map mb] W fun e w'=>e=.returned (.func (.func 133) #[] #[.pointer (some ⟨W.heap.size,0,none⟩)])∧w'=W.alloc (.cells #[.map mb] 121) :=
 AnyZ.keys_in Qt Fence.wide 5 trivial rfl mb W
theorem Nz {H:Type} (b nn:Nat) (D0:DataW H) (R:Value→Option (DataW H×List MemPlace)) (w:World) (hown:w.ownsMap Tryz.prog 9 R b nn D0) (hmax:Maps.size D0≤maxLen) (hbytes:Maps.size D0*16≤140737488355328) :
  CallsIn Fence.wide 5 Tryz.prog 120 #[.func (.func 133) #[] #[.pointer (some ⟨w.heap.size,0,none⟩)]] (w.alloc (.cells #[.map (some b)] 121)) fun e w'=>∃ (v:Value) (ss:List (List UInt8)),e=.returned v∧ss.Perm (strKeys D0) ∧
   w'.ownsRow (w.alloc (.cells #[.map (some b)] 121)).heap.size 9 1 v ss.length ((ss.mergeSort (fun x y=>decide (x≤y))).map encStr)∧(v=.slice none 0 0↔ss=[])∧Below (w.alloc (.cells #[.map (some b)] 121)).heap.size (w.alloc (.cells #[.map (some b)] 121)) w':=by
 have hbl:=hown.lt;have hseq:SeqGives Fence.wide 2 Tryz.prog 133 #[.pointer (some ⟨w.heap.size,0,none⟩)] encStr (fun ss=>ss.Perm (strKeys D0)) (Maps.size D0) (w.alloc (.cells #[.map (some b)] 121)) :=
  AnyZ.keys_gives (ρ:=Vg) { Qt with } Fence.wide _ trivial rfl (by omega) w.heap.size b nn D0 _ (by simp) (by simp) (by
   obtain ⟨es,clock,hb,Ft,hs,hD⟩:=hown
   exact ⟨es,clock,(Below.heap_alloc _ _ b hbl).trans hb,Ft,hs,hD⟩)
 exact AnyZ.sorted_in Zm Fence.wide 5 trivial trivial trivial trivial rfl (by omega) (Vp _) (enters_of Tryz.func131 (by kernel_rfl) rfl) 133 #[.pointer (some ⟨w.heap.size,0,none⟩)] trivial (enters_of Tryz.func133 (by kernel_rfl) rfl) _ _ hmax hbytes _ hseq
end Go.Proofs.YtkiloaiffopllaaGreat
namespace Go.Proofs.YtkiloaiffopllaaGreat
open Go.RowKit
structure Wnt where
 copy:BA
 version:Int
 hold:BA
 pull:Int
 start:Int
 dies:Int
 grace:Int
abbrev wwL (x:Wnt):List Value:=[.string x.copy,.int .i64 x.version,.string x.hold,.int .i64 x.pull,.int .i64 x.start,.int .i64 x.dies,.int .i64 x.grace]
abbrev wwA (x:Wnt):Array Value:=#[.string x.copy,.int .i64 x.version,.string x.hold,.int .i64 x.pull,.int .i64 x.start,.int .i64 x.dies,.int .i64 x.grace]
abbrev WwL:List Value:=[.string ⟨#[]⟩,.int .i64 0,.string ⟨#[]⟩,.int .i64 0,.int .i64 0,.int .i64 0,.int .i64 0]
abbrev WwA:Array Value:=#[.string ⟨#[]⟩,.int .i64 0,.string ⟨#[]⟩,.int .i64 0,.int .i64 0,.int .i64 0,.int .i64 0]
def Cx (x:Wnt):Nat:=x.copy.size+x.hold.size
def WntC:Fv Wnt:=fun _ _ f x=>f 0=some (.string x.copy)∧f 1=some (.int .i64 x.version)∧f 2=some (.string x.hold)∧f 3=some (.int .i64 x.pull)∧f 4=some (.int .i64 x.start)∧f 5=some (.int .i64 x.dies)∧f 6=some (.int .i64 x.grace)∧x.copy.size≤maxLen∧x.hold.size≤maxLen
theorem WntC.holds:Gc WntC 7:=by
 rintro lo lo' w w' f g x h _ _ ⟨q0,q1,q2,q3,q4,q5,q6,z0,z2⟩;exact ⟨(h 0 (by omega)).trans q0,(h 1 (by omega)).trans q1,(h 2 (by omega)).trans q2,(h 3 (by omega)).trans q3,(h 4 (by omega)).trans q4,(h 5 (by omega)).trans q5,(h 6 (by omega)).trans q6,z0,z2⟩
theorem Pc (x:Wnt)  (L:Int) (w:World) (z0:x.copy.size≤maxLen) (z2:x.hold.size≤maxLen)  (h0:0≤L) (h1:L≤1048576) :
  Calls Tryz.prog 48 #[.agg (wwA x),.int .i64 L] w (Rt (.int .i64 (szR (Cx x) L)) w):=by
 unfold maxLen at z0 z2;have HW:Hid (Cx x=x.copy.size+x.hold.size):=rfl;generalize Cx x=W at *;by_cases d0:L - (x.copy.size:Nat)<0
 ·go_enter Tryz.func48,Tryz.ntmps48
  go_wp2_with fail;go_ret;exact ⟨Bm (by have:=HW.out;unfold szR;rw [if_neg (by omega)]),by go_grown⟩
 ·skip
  by_cases d2:L - (x.copy.size:Nat) - (x.hold.size:Nat)<0
  ·go_enter Tryz.func48,Tryz.ntmps48
   go_wp2_with fail;go_ret;exact ⟨Bm (by have:=HW.out;unfold szR;rw [if_neg (by omega)]),by go_grown⟩
  ·skip
   go_enter Tryz.func48,Tryz.ntmps48;go_wp2_with fail;go_ret;exact ⟨Bm (by have:=HW.out;unfold szR;rw [if_pos (by omega)];omega),by go_grown⟩
theorem Au:(Tryz.prog.info? 86).map (·.size)=some 7:=by kernel_rfl
theorem Gr:Nv 86 7:=⟨_,Tryz.underlying86,rfl,Au⟩
theorem Ph (x:Wnt) (w:World) :
  Calls Tryz.prog 62 #[.agg (wwA x)] w (Rt (.agg (wwA x)) w):=by
 go_enter Tryz.func62,Tryz.ntmps62
 go_wp2
 go_returns
 exact ⟨rfl,by go_grown⟩
theorem Oo (x:Wnt) (w:World) :
  Calls Tryz.prog 91 #[.agg (wwA x),.agg (wwA x)] w (Rt (.bool true) w):=by
 go_enter Tryz.func91,Tryz.ntmps91
 go_wp2
 go_ret;exact ⟨rfl,by go_grown⟩
theorem Us (xs:List Wnt) (a:OA) (cap lo:Nat) (L:Int) (w:World) (hin:SliceC WntC 7 lo w a xs) (h0:0≤L) (h1:L≤1048576) :
  Calls Tryz.prog 14 #[.slice a xs.length cap,.int .i64 L] w (Rt (.int .i64 (szR (wS Cx xs) L)) w):=by
 have hlen:=hin.1;unfold maxLen at hlen;have HI:=iH hin;clear hin;have HW:Hid (wS Cx xs=xs.length+(xs.map Cx).sum):=rfl;generalize wS Cx xs=W at *;by_cases c1:L - xs.length<0
 ·go_enter Tryz.func14,Tryz.ntmps14
  go_wp2_with fail;go_ret;exact ⟨Bm (by have:=HW.out;unfold szR;rw [if_neg (by omega)]),Below.refl _ _⟩
 ·go_enter Tryz.func14,Tryz.ntmps14
  go_wp2_with fail;go_loopw [1,5] (fun l i wr=>∃ (k:Nat) (M:Int),k≤xs.length∧i=.int .i64 k∧l=.int .i64 M∧0≤M∧M≤1048576∧Hid (M=L - xs.length - ((xs.take k).map Cx).sum)∧Below w.heap.size w wr) (fun _ i _=>xs.length - (intOf i).toNat)
  case atStart=>exact ⟨0,_,zL,rfl,rfl,by omega,by omega,by show _=_;simp,Below.refl _ _⟩
  case round =>
   obtain ⟨k,M,hk,rfl,rfl,hM0,hM1,hM,hbel⟩:=hrel;by_cases hlt:k<xs.length
   ·obtain ⟨x,hx⟩:=gXe hlt
    obtain ⟨b,o,rfl,_,_,hc⟩:=(HI.out.below WntC.holds hbel nL).at hx;obtain ⟨q0,q1,q2,q3,q4,q5,q6,z0,z2⟩:=hc;simp only [Nat.add_zero] at q0 q1 q2 q3 q4 q5 q6;have HX:Hid (((xs.take (k+1)).map Cx).sum=((xs.take k).map Cx).sum+Cx x):=Jf _ _ _ _ hx;have HY:Hid (((xs.take (k+1)).map Cx).sum≤(xs.map Cx).sum):=Fl _ _ _;have CT:=Pc x M wr z0 z2 hM0 hM1;have HCT:=iH CT;clear hx CT;by_cases hr:(Cx x:Int)≤M
    ·rw [Eu hr] at HCT
     generalize hV:Cx x=V at *;clear hV;go_wp2_with fail;refine HCT.out.mono ?_;rintro e w1 ⟨rfl,hb1⟩;clear HCT;go_wp2_with fail;go_roundw
     case rel =>
      refine ⟨k+1,M - V,by omega,by go_num,rfl,by omega,by omega,?_,qTr hbel hb1⟩;have:=hM.out;have:=HX.out;show _=_
      omega
     case measure=>simp [intOf];omega
    ·rw [Es hr] at HCT
     generalize hV:Cx x=V at *;clear hV;go_wp2_with fail;refine HCT.out.mono ?_;rintro e w1 ⟨rfl,hb1⟩;clear HCT;go_wp2_with fail;go_ret;refine ⟨Bm ?_,qTr hbel hb1⟩;have:=HW.out;have:=HX.out;have:=HY.out;have:=hM.out;unfold szR;rw [if_neg (by omega)]
   ·go_wp2_with fail
    go_ret;refine ⟨Bm ?_,hbel⟩;have hke:k=xs.length:=by omega
    subst hke;have h3:=hM.out;have h4:=HW.out;simp only [List.take_length] at h3;unfold szR;rw [if_pos (by omega)];omega
theorem Jv:(Tryz.prog.info? 86).map (fun i=>(i.zero,i.size,i.bytes))=some (some (.agg WwA),7,72):=by kernel_rfl
theorem Uf (xs:List Wnt) (a:OA) (cap lo:Nat) (w:World) (hin:SliceC WntC 7 lo w a xs) (hsm:wS Cx xs≤1048576) :
  Calls Tryz.prog 24 #[.slice a xs.length cap] w fun e w'=>∃ g,e=.returned (.slice (some ⟨g,0,none⟩) xs.length xs.length)∧w.heap.size≤g∧SliceC WntC 7 w.heap.size w' (some ⟨g,0,none⟩) xs∧Below w.heap.size w w':=by
 obtain ⟨i0,hi,hz0,hz1,hz2⟩:=info_parts Jv;have hlen:xs.length≤1048576:=lT Ff hsm;have HI:=iH hin;have HSM:=iH hsm;clear hin hsm;go_enter Tryz.func24,Tryz.ntmps24;go_wp2_with (at_make;refine wpList_make_full _ rfl _ _ 28 rfl w.heap.size 86 i0 _ 7 Tryz.underlying28 hi hz0 hz1 .i64 .i64 _ _ xs.length rfl rfl rfl rfl (by rw [hz2];omega) (by unfold maxLen;omega) nL ?_;intro w1 hown hgrow);have hb1:Below w.heap.size w w1:=(Below.refl _ _).grown hgrow nL (fun k h=>by cases h);have hsz1:=(hown.lt w.heap.size rfl).2;generalize hX:(madeCells _ (xs.length*7)).toList=xs0 at hown;clear hX hgrow hi hz0 hz1 hz2;go_loopw [4] (fun i wr=>∃ (k:Nat) (cs:List Value),k≤xs.length∧i=.int .i64 k∧w.heap.size<wr.heap.size∧wr.ownsRow w.heap.size 86 7 (.slice (some ⟨w.heap.size,0,none⟩) xs.length xs.length) xs.length cs∧RowC WntC 7 (w.heap.size+1) wr cs xs k∧Below w.heap.size w wr) (fun i _=>xs.length - (intOf i).toNat)
 case atStart=>exact ⟨0,xs0,zL,rfl,hsz1,hown,fun j n h=>by omega,hb1⟩
 case round =>
  clear hown hb1 hsz1;obtain ⟨k,cs,hk,rfl,hszr,hown,hfil,hbel⟩:=hrel;by_cases hlt:k<xs.length
  ·obtain ⟨x,hx⟩:=gXe hlt
   obtain ⟨b,o,rfl,_,_,hc⟩:=(HI.out.below WntC.holds hbel nL).at hx;obtain ⟨q0,q1,q2,q3,q4,q5,q6,z0,z2⟩:=hc;simp only [Nat.add_zero] at q0 q1 q2 q3 q4 q5 q6;have HN:=iH hx;have hwx:Cx x≤1048576:=lT (Na (List.mem_of_getElem? hx)) HSM;have HO:=iH hown;have HF:=iH hfil;have HS:=iH hszr;have CT:=Ph x wr;have HCT:=iH CT;clear hx hown hfil CT hszr;go_wp2_with fail;refine HCT.out.mono ?_;rintro e w2 ⟨rfl,hb2⟩;clear HCT q0 q1 q2 q3 q4 q5 q6;have ho2:=Ae HO hb2;have HB2:=iH (qTr hbel hb2);have HF2:Hid (RowC WntC 7 (w.heap.size+1) w2 cs xs k):=HF.out.keep WntC.holds (Keeps.of_below hb2 nL _);have hs2:Hid (w.heap.size<w2.heap.size):=lL HS hb2.size;have HR:Hid (WntC (w.heap.size+1) w2 (fun i=>((wwL x):List Value)[i]?) x):=⟨rfl,rfl,rfl,rfl,rfl,rfl,rfl,z0,z2⟩;have hxl:cs.length=xs.length*7:=ho2.1;have HT:Hid (w2.there w.heap.size (k*7) 7):=Cg ho2 (by omega);have HL:=iH hxl;have HO2:=iH ho2;clear hxl ho2 HO hb2 hwx;obtain ⟨w3,hw3⟩:∃ w',w'=w2.setCells w.heap.size (k*7) (wwL x):=⟨_,rfl⟩;have HW3:=iH hw3;have HS3:Hid (w.heap.size<w3.heap.size):=by rw [hw3,Al];exact hs2
   have HO3:Hid (w3.ownsRow w.heap.size 86 7 (.slice (some ⟨w.heap.size,0,none⟩) xs.length xs.length) xs.length (Ce cs (k*7) (wwL x))):=by rw [hw3];exact Cp _ _ _ _ HO2
   have HB3:Hid (Below w.heap.size w w3):=by rw [hw3];exact Aa nL _ _ _ HB2
   have HR3:Hid (RowC WntC 7 (w.heap.size+1) w3 (Ce cs (k*7) (wwL x)) xs (k+1)):=by
    rw [hw3];exact (HF2.out.step (vs:=(wwL x)) WntC.holds HN rfl (by have:=HL.out;omega) HR).keep WntC.holds (Keeps.setCells (by omega) _ _ _)
   clear hw3 HB2 HF2 hs2 HR HL HO2;go_wp2_with (refine Ab rfl 86 _ _ rfl w.heap.size (k*7) (wwA x) (by first | rfl | (simp [go_sem];done)) rfl HT Au (by simp [Value.oneCell']) w3 HW3 ?_);go_roundw
   case rel=>exact ⟨k+1,_,by omega,by go_num,HS3,HO3,HR3,HB3⟩
   case measure=>simp [intOf];omega
  ·have HO:=iH hown
   have HF:=iH hfil;clear hown hfil;go_wp2_with fail;go_ret;have hke:k=xs.length:=by omega
   subst hke;exact ⟨_,rfl,Nat.le_refl _,Fw HO HF WntC.holds HI.out.1 (by omega) nL,hbel⟩
theorem Mv (xs:List Wnt) (a a':OA) (cap cap' lo lo':Nat) (w:World) (hg:SliceC WntC 7 lo w a xs) (hh:SliceC WntC 7 lo' w a' xs) (hsm:wS Cx xs≤1048576) :
  Calls Tryz.prog 37 #[.slice a xs.length cap,.slice a' xs.length cap'] w (Rt (.bool true) w):=by
 have hlen:xs.length≤1048576:=lT Ff hsm;have HG:=iH hg;have HH:=iH hh;clear hg hh hsm;go_enter Tryz.func37,Tryz.ntmps37;go_wp2_with fail;go_loopw [5] (fun i wr=>∃ (k:Nat),k≤xs.length∧i=.int .i64 k∧Below w.heap.size w wr) (fun i _=>xs.length - (intOf i).toNat)
 case atStart=>exact ⟨0,zL,rfl,Below.refl _ _⟩
 case round =>
  obtain ⟨k,hk,rfl,hbel⟩:=hrel;by_cases hlt:k<xs.length
  ·obtain ⟨x,hx⟩:=gXe hlt
   obtain ⟨b,o,rfl,_,_,hc⟩:=(HG.out.below WntC.holds hbel nL).at hx;obtain ⟨b',o',rfl,_,_,hc'⟩:=(HH.out.below WntC.holds hbel nL).at hx;obtain ⟨q0,q1,q2,q3,q4,q5,q6,_,_⟩:=hc;obtain ⟨r0,r1,r2,r3,r4,r5,r6,_,_⟩:=hc';simp only [Nat.add_zero] at q0 q1 q2 q3 q4 q5 q6 r0 r1 r2 r3 r4 r5 r6;have k0:=cell_regrown q0;have l0:=cell_regrown r0;have k1:=cell_regrown q1;have l1:=cell_regrown r1;have k2:=cell_regrown q2;have l2:=cell_regrown r2;have k3:=cell_regrown q3;have l3:=cell_regrown r3;have k4:=cell_regrown q4;have l4:=cell_regrown r4;have k5:=cell_regrown q5;have l5:=cell_regrown r5;have k6:=cell_regrown q6;have l6:=cell_regrown r6;have cE:∀ d os,Calls Tryz.prog 91 #[.agg (wwA x),.agg (wwA x)] (Sort.grow (redrawn wr d) os) fun e w''=>e=.returned (.bool true)∧∃ p:Regrown,w''=Sort.grow (redrawn wr p.d) p.os:=fun d os=>Calls.regrown_of (Oo x _)
   have i0:(0:Int)≤(k:Int):=by omega
   have i1:(k:Int)<(xs.length:Int):=by omega
   clear hx q0 q1 q2 q3 q4 q5 q6 r0 r1 r2 r3 r4 r5 r6;go_wp2_with fail;refine wp_region_quiet_below (by kernel_rfl) (by kernel_rfl) ?_
   repeat (quiet_step (first | exact cE _ _))
   refine wpQuiet_nil ?_;intro _ hw';obtain ⟨⟨dq,osq⟩,hw''⟩:=hw';have hB:=hbel.trans ((below_regrown wr dq osq).mono hbel.size);simp only [] at hw'';rw [← hw''] at hB;clear hw'' cE k0 l0 k1 l1 k2 l2 k3 l3 k4 l4 k5 l5 k6 l6;go_wp2_with fail;go_roundw
   case rel=>exact ⟨k+1,by omega,by go_num,hB⟩
   case measure=>simp [intOf];omega
  ·go_wp2_with fail
   go_ret;exact ⟨rfl,hbel⟩
end Go.Proofs.YtkiloaiffopllaaGreat
