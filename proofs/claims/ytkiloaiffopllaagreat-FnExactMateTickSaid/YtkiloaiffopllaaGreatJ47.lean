import Derived.Laws.IdiomStrings
import Derived.Test.YtkiloaiffopllaaGreatJ28
set_option maxHeartbeats 8000000
namespace Go.Proofs.YtkiloaiffopllaaGreat
set_option maxRecDepth 100000
open Go.RowKit
def Rd (j:Nat):UInt8:=UInt8.ofNat (48+j % 10)
def Og:Nat→Nat→BA→BA
 | 0,_,s=>s
 | f+1,j,s=>if j=0 then s else Og f (j / 10) (⟨#[Rd j]⟩++s)
def Bj (k:Nat):BA:=⟨#[109]⟩++Og 3000 k ⟨#[]⟩
theorem Yp (f:Nat) (s:BA):Og f 0 s=s:=by
 cases f with
 | zero=>rfl
 | succ f=>simp [Og]
theorem cL (j:Nat):((Rd j).toNat:Int)=48+(j:Int) % 10:=by
 have h:(Rd j).toNat=48+j % 10:=by
  unfold Rd;rw [UInt8.toNat_ofNat'];omega
 rw [h];omega
theorem Ax (k:Nat) (w:World) (h0:0<k) (h1:k≤1073741824) :
  Calls Tryz.prog 44 #[.int .i64 k] w (Rt (.string (Bj k)) w):=by
 have HR:Hid (Bj k=⟨#[109]⟩++Og 3000 k ⟨#[]⟩):=rfl;generalize Bj k=M at *;go_enter Tryz.func44,Tryz.ntmps44;go_wp2_with fail;go_loopw [0,3] (fun v o wr=>∃ (j f:Nat) (s:BA),v=.int .i64 j∧o=.string s∧j≤1073741824∧Hid ((∃ e,j<10 ^ e∧e≤f)∧s.size+f=3000∧Og f j s=Og 3000 k ⟨#[]⟩)∧Below w.heap.size w wr) (fun v _ _=>(intOf v).toNat)
 case atStart=>exact ⟨k,3000,_,rfl,rfl,by omega,⟨⟨10,by omega,by omega⟩,rfl,rfl⟩,Below.refl _ _⟩
 case round =>
  obtain ⟨j,f,s,rfl,rfl,hj,HF,hbel⟩:=hrel;by_cases hp:0<j
  ·have hcv:(convert 131 9 (.slice (some ⟨wr.heap.size,0,none⟩) 1 1)).run Tryz.prog (wr.alloc (Obj.cells #[.int .u8 (48+(j:Int) % 10)] 5))=.ok (.string ⟨#[Rd j]⟩) (wr.alloc (Obj.cells #[.int .u8 (48+(j:Int) % 10)] 5)) :=
    run_convert_bytes_back _ _ _ 5 ⟨wr.heap.size,0,none⟩ 1 [Rd j] Tryz.underlying131 Tryz.underlying5 Tryz.underlying9 (fun i hi=>by
     have:i=0:=by simpa using hi
     subst this;rw [← cL,Addr.add_mid,World.cell?_alloc_at _ _ _ _ (by rfl)]
     rfl)
   obtain ⟨g,rfl⟩:∃ g,f=g+1:=by
    obtain ⟨e,he,hf⟩:=HF.out.1
    cases e with
    | zero=>simp at he;omega
    | succ e=>exact ⟨f - 1,by omega⟩
   have HN:Hid ((∃ e,j / 10<10 ^ e∧e≤g)∧((⟨#[Rd j]⟩:BA)++s).size+g=3000∧Og g (j / 10) (⟨#[Rd j]⟩++s)=Og 3000 k ⟨#[]⟩):=by
    obtain ⟨a,b,c⟩:=HF.out;refine ⟨?_,?_,?_⟩
    ·obtain ⟨e,he,hf⟩:=a
     cases e with
     | zero=>simp at he;omega
     | succ e=>exact ⟨e,by rw [Nat.pow_succ] at he;omega,by omega⟩
    ·rw [ByteArray.size_append]
     show 1+_+_=_
     omega
    ·rw [← c]
     simp only [Og];rw [if_neg (by omega)]
   have hss:s.size≤3000:=by have:=HF.out.2.1;omega
   clear HF;go_wp2_with fail;go_roundw
   case rel=>exact ⟨j / 10,g,_,by congr 1,rfl,by omega,HN,hbel.alloc hbel.size _⟩
   case measure=>simp [intOf];omega
  ·have hj0:j=0:=by omega
   subst hj0;have HS:Hid (M=⟨#[109]⟩++s):=by
    show _=_
    rw [HR.out,← HF.out.2.2,Yp]
   have hss:s.size≤3000:=by have:=HF.out.2.1;omega
   clear HF;go_wp2_with fail;go_ret;exact ⟨by rw [HS.out];rfl,hbel⟩
def cV:Value→Bool
 | .slice _ _ _=>true
 | _=>false
structure Mkd (lo:Nat) (wx ws w:World):Prop where
 bel:Below lo ws w
 up:∀ b o,wx.heap.size≤b→b<ws.heap.size→w.cell? ⟨b,o,none⟩=ws.cell? ⟨b,o,none⟩∧w.frozen? ⟨b,o,none⟩=ws.frozen? ⟨b,o,none⟩
 sl:∀ b o v,wx.cell? ⟨b,o,none⟩=some v→cV v=true→w.cell? ⟨b,o,none⟩=some v
 so:∀ b o v,wx.cell? ⟨b,o,none⟩=some v→∃ u,w.cell? ⟨b,o,none⟩=some u
 fz:∀ b o,b<wx.heap.size→w.frozen? ⟨b,o,none⟩=wx.frozen? ⟨b,o,none⟩
 sz:wx.heap.size≤w.heap.size
 lo_:lo≤wx.heap.size
theorem Mkd.start {lo:Nat} {wx ws:World} (h:Below wx.heap.size wx ws) (hl:lo≤wx.heap.size):Mkd lo wx ws ws where
 bel:=Below.refl _ _
 up:=fun _ _ _ _=>⟨rfl,rfl⟩
 sl:=fun b o _ hv _=>(h.cell (p:=⟨b,o,none⟩) (block_lt_of_cell hv)).trans hv
 so:=fun b o v hv=>⟨v,(h.cell (p:=⟨b,o,none⟩) (block_lt_of_cell hv)).trans hv⟩
 fz:=fun b o hb=>h.frozen (p:=⟨b,o,none⟩) hb
 sz:=h.size
 lo_:=hl
theorem Mkd.below {lo:Nat} {wx ws w w':World} (m:Mkd lo wx ws w) (h:Below w.heap.size w w'):Mkd lo wx ws w' where
 bel:=m.bel.trans (h.mono (lT m.lo_ m.sz))
 up:=fun b o h1 h2=>by
  have hb:b<w.heap.size:=lL h2 m.bel.size;exact ⟨(h.cell (p:=⟨b,o,none⟩) hb).trans (m.up b o h1 h2).1,(h.frozen (p:=⟨b,o,none⟩) hb).trans (m.up b o h1 h2).2⟩
 sl:=fun b o v hv hs=>(h.cell (p:=⟨b,o,none⟩) (block_lt_of_cell (m.sl b o v hv hs))).trans (m.sl b o v hv hs)
 so:=fun b o v hv=>by
  obtain ⟨u,hu⟩:=m.so b o v hv;exact ⟨u,(h.cell (p:=⟨b,o,none⟩) (block_lt_of_cell hu)).trans hu⟩
 fz:=fun b o hb=>(h.frozen (p:=⟨b,o,none⟩) (lL hb m.sz)).trans (m.fz b o hb)
 sz:=lT m.sz h.size
 lo_:=m.lo_
theorem Mkd.set {lo:Nat} {wx ws w:World} (m:Mkd lo wx ws w) {b o:Nat} {v0:Value} (hl:lo≤b) (hx:wx.cell? ⟨b,o,none⟩=some v0) (hs:cV v0=false) (v:Value):Mkd lo wx ws (w.setCell ⟨b,o,none⟩ v) where
 bel:=m.bel.setCell hl v
 up:=fun b' o' h1 h2=>by
  have hb:=block_lt_of_cell hx;have hne:b'≠b:=by
   have:b<wx.heap.size:=hb;omega
  refine ⟨(World.cell?_of_block (w:=w) (a:=⟨b',o',none⟩) (Below.heap_setCell w ⟨b,o,none⟩ v b' hne)).trans (m.up b' o' h1 h2).1,?_⟩;rw [World.frozen?_setCell];exact (m.up b' o' h1 h2).2
 sl:=fun b' o' u hu hu2=>by
  by_cases e:(⟨b,o,none⟩:Addr)=⟨b',o',none⟩
  ·cases e
   rw [hx] at hu;cases hu
   rw [hs] at hu2;cases hu2
  ·exact (World.cell?_setCell_other _ _ _ _ e).trans (m.sl b' o' u hu hu2)
 so:=fun b' o' u hu=>by
  obtain ⟨u',hu'⟩:=m.so b' o' u hu;by_cases e:(⟨b,o,none⟩:Addr)=⟨b',o',none⟩
  ·cases e
   exact ⟨v,World.cell?_setCell_same _ _ _ hu'⟩
  ·exact ⟨u',(World.cell?_setCell_other _ _ _ _ e).trans hu'⟩
 fz:=fun b' o' hb=>by
  rw [World.frozen?_setCell];exact m.fz b' o' hb
 sz:=lT m.sz (by simp [World.setCell])
 lo_:=m.lo_
theorem Mkd.rebase {lo:Nat} {wx ws w:World} (m:Mkd lo wx ws w):Mkd lo wx w w where
 bel:=Below.refl _ _
 up:=fun _ _ _ _=>⟨rfl,rfl⟩
 sl:=m.sl
 so:=m.so
 fz:=m.fz
 sz:=m.sz
 lo_:=m.lo_
theorem Mkd.trans {lo:Nat} {wx ws w w':World} (m:Mkd lo wx ws w) (k:Mkd lo wx w w'):Mkd lo wx ws w' where
 bel:=m.bel.trans k.bel
 up:=fun b o h1 h2=>by
  have hb:b<w.heap.size:=lL h2 m.bel.size;exact ⟨(k.up b o h1 hb).1.trans (m.up b o h1 h2).1,(k.up b o h1 hb).2.trans (m.up b o h1 h2).2⟩
 sl:=k.sl
 so:=k.so
 fz:=k.fz
 sz:=k.sz
 lo_:=k.lo_
structure Bp (a:OA) (w w':World):Prop where
 os:w'.os=w.os
 tape:w'.tape=w.tape
 output:w'.output=w.output
 size:w.heap.size≤w'.heap.size
 block:∀ b,b<w.heap.size→(∀ o s,a≠some ⟨b,o,s⟩)→w'.heap[b]?=w.heap[b]?
theorem Bp.refl (a:OA) (w:World):Bp a w w:=⟨rfl,rfl,rfl,Nat.le_refl _,fun _ _ _=>rfl⟩
theorem Bp.set {g o:Nat} {w0 w:World} (h:Bp (some ⟨g,o,none⟩) w0 w) (p:Nat) (u:Value):Bp (some ⟨g,o,none⟩) w0 (w.setCell ⟨g,p,none⟩ u) :=
 ⟨h.os,h.tape,h.output,by simpa using h.size,fun b hb hn=>(Below.heap_setCell w ⟨g,p,none⟩ u b (fun e=>hn o none (by rw [e]))).trans (h.block b hb hn)⟩
theorem Bp.below {a:OA} {w0 w w':World} (h:Bp a w0 w) (hb:Below w.heap.size w w'):Bp a w0 w' :=
 ⟨hb.os.trans h.os,hb.tape.trans h.tape,hb.output.trans h.output,lT h.size hb.size,fun b h1 h2=>(hb.block b (lL h1 h.size)).trans (h.block b h1 h2)⟩
theorem Bp.down {a:OA} {w w':World} {B:Nat} (h:Bp a w w') (hB:B≤w.heap.size) (ha:∀ b o s,a=some ⟨b,o,s⟩→B≤b):Below B w w' :=
 ⟨h.os,h.tape,h.output,h.size,fun b hb=>h.block b (by omega) (fun o s e=>by have:=ha b o s e;omega)⟩
theorem Bp.keeps {a:OA} {w w':World} {hi:Nat} (h:Bp a w w') (u:Und a hi):Keeps hi w w' :=
 ⟨h.size,fun b o h1 h2=>by
  have e:=h.block b h2 (fun o s e=>by have:=u b o s e;omega)
  exact ⟨World.cell?_of_block (a:=⟨b,o,none⟩) e,World.frozen?_of_block (a:=⟨b,o,none⟩) e⟩⟩
def mvP (k t:Nat):Value :=
 if t % 7=0 then .int .i64 ((k+t / 7*6:Nat):Int) else if t % 7=1 then .string (Bj (k+t / 7*6+1)) else if t % 7=2 then .int .i64 ((k+t / 7*6+2:Nat):Int) else if t % 7=3 then .slice none 0 0 else if t % 7=4 then .string (Bj (k+t / 7*6+3)) else if t % 7=5 then .string (Bj (k+t / 7*6+4)) else .int .i64 ((k+t / 7*6+5:Nat):Int)
theorem dC (k j:Nat):mvP k (j*7)=.int .i64 ((k+j*6:Nat):Int):=by
 unfold mvP;rw [show j*7 / 7=j by omega,if_pos (by omega)]
theorem dB (k j:Nat):mvP k (j*7+1)=.string (Bj (k+j*6+1)):=by
 unfold mvP;rw [show (j*7+1) / 7=j by omega,if_neg (by omega),if_pos (by omega)]
theorem cT (k j:Nat):mvP k (j*7+2)=.int .i64 ((k+j*6+2:Nat):Int):=by
 unfold mvP;rw [show (j*7+2) / 7=j by omega,if_neg (by omega),if_neg (by omega),if_pos (by omega)]
theorem dI (k j:Nat):mvP k (j*7+3)=.slice none 0 0:=by
 unfold mvP;rw [if_neg (by omega),if_neg (by omega),if_neg (by omega),if_pos (by omega)]
theorem dH (k j:Nat):mvP k (j*7+4)=.string (Bj (k+j*6+3)):=by
 unfold mvP;rw [show (j*7+4) / 7=j by omega,if_neg (by omega),if_neg (by omega),if_neg (by omega),if_neg (by omega),if_pos (by omega)]
theorem dG (k j:Nat):mvP k (j*7+5)=.string (Bj (k+j*6+4)):=by
 unfold mvP;rw [show (j*7+5) / 7=j by omega,if_neg (by omega),if_neg (by omega),if_neg (by omega),if_neg (by omega),if_neg (by omega),if_pos (by omega)]
theorem dE (k j:Nat):mvP k (j*7+6)=.int .i64 ((k+j*6+5:Nat):Int):=by
 unfold mvP;rw [show (j*7+6) / 7=j by omega,if_neg (by omega),if_neg (by omega),if_neg (by omega),if_neg (by omega),if_neg (by omega),if_neg (by omega)]
def MkC (w:World) (g m k:Nat):Prop:=∀ t,t<m→w.cell? ⟨g,t,none⟩=some (mvP k t)
theorem MkC.below {w w':World} {g m k:Nat} (h:MkC w g m k) (hb:Below w.heap.size w w'):MkC w' g m k :=
 fun t ht=>(hb.cell (p:=⟨g,t,none⟩) (block_lt_of_cell (h t ht))).trans (h t ht)
theorem MkC.set {w:World} {g m k:Nat} {u v:Value} (h:MkC w g m k) (c:w.cell? ⟨g,m,none⟩=some u) (hv:v=mvP k m):MkC (w.setCell ⟨g,m,none⟩ v) g (m+1) k:=by
 subst hv;intro t ht;by_cases e:t=m
 ·subst e
  exact World.cell?_setCell_same _ _ _ c
 ·rw [World.cell?_setCell_other _ _ _ _ (fun h=>by injection h with _ h _;exact e h.symm)]
  exact h t (by omega)
theorem MkC.more {w:World} {g m k:Nat} (h:MkC w g m k) (c:w.cell? ⟨g,m,none⟩=some (mvP k m)):MkC w g (m+1) k:=by
 intro t ht;by_cases e:t=m
 ·subst e
  exact c
 ·exact h t (by omega)
structure PcR (w:World) (g n:Nat):Prop where
 lt:g<w.heap.size
 cl:∀ t,t<n*7→∃ u,w.cell? ⟨g,t,none⟩=some u
 fz:∀ p,w.frozen? ⟨g,p,none⟩=false
 nl:∀ j,j<n→w.cell? ⟨g,j*7+3,none⟩=some (.slice none 0 0)
theorem PcR.below {w w':World} {g n:Nat} (h:PcR w g n) (hb:Below w.heap.size w w'):PcR w' g n :=
 ⟨lL h.lt hb.size,fun t ht=>by obtain ⟨u,hu⟩:=h.cl t ht;exact ⟨u,(hb.cell (p:=⟨g,t,none⟩) h.lt).trans hu⟩,fun p=>(hb.frozen (p:=⟨g,p,none⟩) h.lt).trans (h.fz p),fun j hj=>(hb.cell (p:=⟨g,j*7+3,none⟩) h.lt).trans (h.nl j hj)⟩
theorem PcR.set {w:World} {g n p:Nat} (h:PcR w g n) (hp:∀ j,p≠j*7+3) (v:Value):PcR (w.setCell ⟨g,p,none⟩ v) g n:=by
 refine ⟨by simpa using h.lt,fun t ht=>?_,fun q=>by simpa using h.fz q,fun j hj=>?_⟩
 ·obtain ⟨u,hu⟩:=h.cl t ht
  by_cases e:t=p
  ·subst e
   exact ⟨v,World.cell?_setCell_same _ _ _ hu⟩
  ·exact ⟨u,by rw [World.cell?_setCell_other _ _ _ _ (fun h=>by injection h with _ h _;exact e h.symm)];exact hu⟩
 ·rw [World.cell?_setCell_other _ _ _ _ (fun h=>by injection h with _ h _;exact hp j h)]
  exact h.nl j hj
def PcA (w:World) (a:OA) (n:Nat):Prop:=n=0∨∃ g,a=some ⟨g,0,none⟩∧PcR w g n
def MkA (w:World) (a:OA) (n k:Nat):Prop:=n=0∨∃ g,a=some ⟨g,0,none⟩∧MkC w g (n*7) k
theorem PcA.below {w w':World} {a:OA} {n:Nat} (h:PcA w a n) (hb:Below w.heap.size w w'):PcA w' a n:=by
 rcases h with h | ⟨g,e,h⟩
 ·exact .inl h
 ·exact .inr ⟨g,e,h.below hb⟩
theorem MkA.below {w w':World} {a:OA} {n k:Nat} (h:MkA w a n k) (hb:Below w.heap.size w w'):MkA w' a n k:=by
 rcases h with h | ⟨g,e,h⟩
 ·exact .inl h
 ·exact .inr ⟨g,e,h.below hb⟩
theorem PcA.row {base cap:Nat} {a:OA} {w:World} {xs:List Pcl} (h:w.ownsRow base 54 7 (.slice a xs.length cap) xs.length (Bg xs)):PcA w a xs.length:=by
 rcases h.2 with ⟨h1,_⟩ | ⟨g,cap',cur,h1,_⟩
 ·have:xs.length=0:=by injection h1
  exact .inl this
 ·have e:a=some ⟨g,0,none⟩:=by injection h1
  subst e;have hc:∀ (j:Nat) (x:Pcl) (i:Nat) (v:Value),xs[j]?=some x→(Di x)[i]?=some v→w.cell? ⟨g,j*7+i,none⟩=some v:=fun j x i v hj hv=>by
   have hi:i<7:=Ah hv;have hlt:=Ah hj;rw [h.cellAt (j*7+i) (by omega),Mm xs j x i hj hi];exact hv
  refine .inr ⟨g,rfl,(h.lt g rfl).2,fun t ht=>?_,fun p=>h.frozenAt p,fun j hj=>?_⟩
  ·obtain ⟨x,hx⟩:∃ x,xs[t / 7]?=some x:=⟨xs[t / 7]'(by omega),gE (by omega)⟩
   obtain ⟨v,hv⟩:∃ v,(Di x)[t % 7]?=some v:=⟨(Di x)[t % 7]'(by rw [Fa];omega),gE (by rw [Fa];omega)⟩;have h9:=hc _ _ _ _ hx hv;rw [show t / 7*7+t % 7=t by omega] at h9;exact ⟨v,h9⟩
  ·obtain ⟨x,hx⟩:=gXe hj
   exact hc j x 3 _ hx rfl
def Ovr (a:OA) (n h:Nat):Prop:=n=0∨∃ b o,a=some ⟨b,o,none⟩∧h≤b
theorem Ovr.of {α:Type} {C:Fv α} {n lo:Nat} {w:World} {a:OA} {xs:List α} (h:SliceC C n lo w a xs):Ovr a xs.length lo:=by
 rcases h.2 with h | ⟨b,o,e,⟨h1,_⟩,_⟩
 ·exact .inl (by rw [h];rfl)
 ·exact .inr ⟨b,o,e,h1⟩
theorem PcA.base {base cap:Nat} {a:OA} {w:World} {xs:List Pcl} (h:w.ownsRow base 54 7 (.slice a xs.length cap) xs.length (Bg xs)):∀ b o s,a=some ⟨b,o,s⟩→base≤b:=by
 intro b o s e;rcases h.2 with ⟨h1,_⟩ | ⟨g,cap',cur,h1,_⟩
 ·have e2:a=none:=by injection h1
  rw [e2] at e;cases e
 ·have e2:a=some ⟨g,0,none⟩:=by injection h1
  subst e2;cases e
  exact (h.lt _ rfl).1
theorem PcA.keep {w w':World} {a:OA} {n lo:Nat} (h:PcA w a n) (hk:Keeps lo w w') (ha:∀ b o s,a=some ⟨b,o,s⟩→lo≤b):PcA w' a n:=by
 rcases h with h | ⟨g,e,h⟩
 ·exact .inl h
 ·have hl:=ha g 0 none e
  exact .inr ⟨g,e,lL h.lt hk.1,fun t ht=>by obtain ⟨u,hu⟩:=h.cl t ht;exact ⟨u,(hk.2 g t hl h.lt).1.trans hu⟩,fun p=>(hk.2 g p hl h.lt).2.trans (h.fz p),fun j hj=>(hk.2 g (j*7+3) hl h.lt).1.trans (h.nl j hj)⟩
theorem PcA.under {w w':World} {a:OA} {n hi:Nat} (h:PcA w a n) (hb:Below hi w w') (u:Und a hi):PcA w' a n:=by
 rcases h with h | ⟨g,e,h⟩
 ·exact .inl h
 ·have hl:g<hi:=u g 0 none e
  exact .inr ⟨g,e,lL h.lt hb.size,fun t ht=>by obtain ⟨u,hu⟩:=h.cl t ht;exact ⟨u,(hb.cell (p:=⟨g,t,none⟩) hl).trans hu⟩,fun p=>(hb.frozen (p:=⟨g,p,none⟩) hl).trans (h.fz p),fun j hj=>(hb.cell (p:=⟨g,j*7+3,none⟩) hl).trans (h.nl j hj)⟩
theorem Qj (k:Int) (w:World) :
  Calls Tryz.prog 41 #[.slice none 0 0,.int .i64 k] w (Rt (.int .i64 k) w):=by
 go_enter Tryz.func41,Tryz.ntmps41;go_wp2_with fail;go_loopw [1,5] (fun l i wr=>l=.int .i64 k∧i=.int .i64 0∧Below w.heap.size w wr) (fun _ _ _=>0)
 case atStart=>exact ⟨rfl,rfl,by first | exact Below.refl _ _ | go_grown⟩
 case round =>
  obtain ⟨rfl,rfl,hB⟩:=hrel;go_wp2_with fail;go_ret;exact ⟨rfl,hB⟩
theorem Py (k:Int) (w:World) :
  Calls Tryz.prog 45 #[.slice none 0 0,.int .i64 k] w (Rt (.int .i64 k) w):=by
 go_enter Tryz.func45,Tryz.ntmps45;go_wp2_with fail;go_loopw [1,5] (fun l i wr=>l=.int .i64 k∧i=.int .i64 0∧Below w.heap.size w wr) (fun _ _ _=>0)
 case atStart=>exact ⟨rfl,rfl,by first | exact Below.refl _ _ | go_grown⟩
 case round =>
  obtain ⟨rfl,rfl,hB⟩:=hrel;go_wp2_with fail;go_ret;exact ⟨rfl,hB⟩
theorem Px (a:OA) (n cap k:Nat) (w:World) (hin:PcA w a n) (h0:0<k) (h1:k+n*6≤1073741824) :
  Calls Tryz.prog 11 #[.slice a n cap,.int .i64 k] w fun e w'=>e=.returned (.int .i64 ((k+n*6:Nat):Int))∧MkA w' a n k∧Bp a w w':=by
 have HI:=iH hin;clear hin;go_enter Tryz.func11,Tryz.ntmps11;go_wp2_with fail;go_loopw [1,5] (fun v i wr=>∃ j:Nat,j≤n∧i=.int .i64 j∧v=.int .i64 ((k+j*6:Nat):Int)∧Hid (PcA wr a n)∧Hid (MkA wr a j k)∧Hid (Bp a w wr)) (fun _ i _=>n - (intOf i).toNat)
 case atStart=>exact ⟨0,zL,rfl,by simp,HI,.inl rfl,Bp.refl _ _⟩
 case round =>
  clear HI;obtain ⟨j,hj,rfl,rfl,hA,hV,hM⟩:=hrel;by_cases hlt:j<n
  ·obtain ⟨g,rfl,hp⟩:∃ g,a=some ⟨g,0,none⟩∧PcR wr g n:=by
    rcases hA.out with h | h
    ·omega
    ·exact h
   have P0:=iH hp;have B0:=iH hM.out;have i0:(0:Int)≤(j:Int):=by omega
   have i1:(j:Int)<(n:Int):=by omega
   have C0:Hid (MkC wr g (j*7) k):=by
    rcases hV.out with h | ⟨b',e,h⟩
    ·intro t ht;omega
    ·cases e;exact h
   have hkb:k+j*6+6≤1073741824:=by omega
   clear hp hA hV hM;obtain ⟨y0,hy0⟩:∃ y:Nat,y=k+j*6:=⟨_,rfl⟩;have HY0:=iH hy0;have hs0:((k+j*6:Nat):Int)=(y0:Int):=by rw [hy0]
   rw [hs0];clear hs0;have hyl:y0+6≤1073741824:=by omega
   have hyp:0<y0:=by omega
   clear hy0;obtain ⟨u0,d0⟩:=P0.out.cl (j*7) (by omega);have g0:=P0.out.fz (j*7);have C1:Hid (MkC (wr.setCell ⟨g,j*7,none⟩ (.int .i64 (y0:Int))) g (j*7+1) k):=C0.out.set d0 (by rw [dC,HY0.out]);have P1:=iH (P0.out.set (p:=j*7) (by omega) (.int .i64 (y0:Int)));have B1:=iH (B0.out.set (j*7) (.int .i64 (y0:Int)));go_upto_region 5 with fail;clear d0 g0 P0 B0 C0;generalize wr.setCell ⟨g,j*7,none⟩ (.int .i64 (y0:Int))=wb0 at *;go_upto_region 6 with fail;obtain ⟨y1,hy1⟩:∃ y:Nat,y=y0+1:=⟨_,rfl⟩;have hs1:((y0:Int)+1)=(y1:Int):=by omega
   rw [hs1];have HY1:Hid (y1=k+j*6+1):=by have:=HY0.out;show _=_;omega
   have hyl1:y1+5≤1073741824:=by omega
   have hyp1:0<y1:=by omega
   clear hs1 hy1;go_wp2_with fail;refine (Ax y1 _ (by omega) (by omega)).mono ?_;rintro e wa1 ⟨rfl,hb1⟩;have P2:=iH (P1.out.below hb1);have B2:=iH (B1.out.below hb1);have C2:=iH (C1.out.below hb1);clear hb1 P1 B1 C1;obtain ⟨u1,d1⟩:=P2.out.cl (j*7+1) (by omega);have g1:=P2.out.fz (j*7+1);have C3:Hid (MkC (wa1.setCell ⟨g,j*7+1,none⟩ (.string (Bj y1))) g (j*7+1+1) k):=C2.out.set d1 (by rw [dB,HY1.out]);have P3:=iH (P2.out.set (p:=j*7+1) (by omega) (.string (Bj y1)));have B3:=iH (B2.out.set (j*7+1) (.string (Bj y1)));go_upto_region 7 with fail;clear d1 g1 P2 B2 C2;generalize wa1.setCell ⟨g,j*7+1,none⟩ (.string (Bj y1))=wb1 at *;go_upto_region 8 with fail;obtain ⟨y2,hy2⟩:∃ y:Nat,y=y1+1:=⟨_,rfl⟩;have hs2:((y1:Int)+1)=(y2:Int):=by omega
   rw [hs2];have HY2:Hid (y2=k+j*6+2):=by have:=HY1.out;show _=_;omega
   have hyl2:y2+4≤1073741824:=by omega
   have hyp2:0<y2:=by omega
   clear hs2 hy2;obtain ⟨u2,d2⟩:=P3.out.cl (j*7+2) (by omega);have g2:=P3.out.fz (j*7+2);have C4:Hid (MkC (wb1.setCell ⟨g,j*7+2,none⟩ (.int .i64 (y2:Int))) g (j*7+2+1) k):=C3.out.set d2 (by rw [cT,HY2.out]);have P4:=iH (P3.out.set (p:=j*7+2) (by omega) (.int .i64 (y2:Int)));have B4:=iH (B3.out.set (j*7+2) (.int .i64 (y2:Int)));go_upto_region 9 with fail;clear d2 g2 P3 B3 C3;generalize wb1.setCell ⟨g,j*7+2,none⟩ (.int .i64 (y2:Int))=wb2 at *;go_upto_region 10 with fail;obtain ⟨y3,hy3⟩:∃ y:Nat,y=y2+1:=⟨_,rfl⟩;have hs3:((y2:Int)+1)=(y3:Int):=by omega
   rw [hs3];have HY3:Hid (y3=k+j*6+3):=by have:=HY2.out;show _=_;omega
   have hyl3:y3+3≤1073741824:=by omega
   have hyp3:0<y3:=by omega
   clear hs3 hy3;have k3:wb2.cell? ⟨g,j*7+3,none⟩=some (.slice none 0 0):=P4.out.nl j hlt;have C4m:Hid (MkC wb2 g (j*7+3+1) k):=C4.out.more (by rw [dI];exact k3);go_wp2_with fail;refine (Qj _ _).mono ?_;rintro e wn ⟨rfl,hbn⟩;have P5:=iH (P4.out.below hbn);have B5:=iH (B4.out.below hbn);have C5:=iH (C4m.out.below hbn);clear k3 hbn P4 B4 C4 C4m;go_upto_region 11 with fail;go_wp2_with fail;refine (Ax y3 _ (by omega) (by omega)).mono ?_;rintro e wa4 ⟨rfl,hb4⟩;have P6:=iH (P5.out.below hb4);have B6:=iH (B5.out.below hb4);have C6:=iH (C5.out.below hb4);clear hb4 P5 B5 C5;obtain ⟨u4,d4⟩:=P6.out.cl (j*7+4) (by omega);have g4:=P6.out.fz (j*7+4);have C7:Hid (MkC (wa4.setCell ⟨g,j*7+4,none⟩ (.string (Bj y3))) g (j*7+4+1) k):=C6.out.set d4 (by rw [dH,HY3.out]);have P7:=iH (P6.out.set (p:=j*7+4) (by omega) (.string (Bj y3)));have B7:=iH (B6.out.set (j*7+4) (.string (Bj y3)));go_upto_region 12 with fail;clear d4 g4 P6 B6 C6;generalize wa4.setCell ⟨g,j*7+4,none⟩ (.string (Bj y3))=wb4 at *;go_upto_region 13 with fail;obtain ⟨y4,hy4⟩:∃ y:Nat,y=y3+1:=⟨_,rfl⟩;have hs4:((y3:Int)+1)=(y4:Int):=by omega
   rw [hs4];have HY4:Hid (y4=k+j*6+4):=by have:=HY3.out;show _=_;omega
   have hyl4:y4+2≤1073741824:=by omega
   have hyp4:0<y4:=by omega
   clear hs4 hy4;go_wp2_with fail;refine (Ax y4 _ (by omega) (by omega)).mono ?_;rintro e wa5 ⟨rfl,hb5⟩;have P8:=iH (P7.out.below hb5);have B8:=iH (B7.out.below hb5);have C8:=iH (C7.out.below hb5);clear hb5 P7 B7 C7;obtain ⟨u5,d5⟩:=P8.out.cl (j*7+5) (by omega);have g5:=P8.out.fz (j*7+5);have C9:Hid (MkC (wa5.setCell ⟨g,j*7+5,none⟩ (.string (Bj y4))) g (j*7+5+1) k):=C8.out.set d5 (by rw [dG,HY4.out]);have P9:=iH (P8.out.set (p:=j*7+5) (by omega) (.string (Bj y4)));have B9:=iH (B8.out.set (j*7+5) (.string (Bj y4)));go_upto_region 14 with fail;clear d5 g5 P8 B8 C8;generalize wa5.setCell ⟨g,j*7+5,none⟩ (.string (Bj y4))=wb5 at *;go_upto_region 15 with fail;obtain ⟨y5,hy5⟩:∃ y:Nat,y=y4+1:=⟨_,rfl⟩;have hs5:((y4:Int)+1)=(y5:Int):=by omega
   rw [hs5];have HY5:Hid (y5=k+j*6+5):=by have:=HY4.out;show _=_;omega
   have hyl5:y5+1≤1073741824:=by omega
   have hyp5:0<y5:=by omega
   clear hs5 hy5;obtain ⟨u6,d6⟩:=P9.out.cl (j*7+6) (by omega);have g6:=P9.out.fz (j*7+6);have C10:Hid (MkC (wb5.setCell ⟨g,j*7+6,none⟩ (.int .i64 (y5:Int))) g (j*7+6+1) k):=C9.out.set d6 (by rw [dE,HY5.out]);have P10:=iH (P9.out.set (p:=j*7+6) (by omega) (.int .i64 (y5:Int)));have B10:=iH (B9.out.set (j*7+6) (.int .i64 (y5:Int)));go_upto_region 16 with fail;clear d6 g6 P9 B9 C9;generalize wb5.setCell ⟨g,j*7+6,none⟩ (.int .i64 (y5:Int))=wb6 at *
   have HR:Hid (MkA wb6 (some ⟨g,0,none⟩) (j+1) k):=.inr ⟨g,rfl,by
    have h:=C10.out;rw [show j*7+6+1=(j+1)*7 by omega] at h
    exact h⟩
   have HPA:Hid (PcA wb6 (some ⟨g,0,none⟩) n):=.inr ⟨g,rfl,P10⟩;have hend:((y5:Int)+1)=((k+(j+1)*6:Nat):Int):=by have:=HY5.out;omega
   go_wp2_with fail;go_roundw
   case rel=>exact ⟨j+1,by omega,by go_num,by first | rw [hend] | go_num,HPA,HR,B10⟩
   case measure=>simp [intOf];omega
  ·have hje:j=n:=by omega
   subst hje;go_wp2_with fail;go_ret;exact ⟨rfl,hV.out,hM.out⟩
theorem Kd (a:OA) (n cap k:Nat) (w:World) (hin:MkA w a n k) (h0:0<k) (h1:k+n*6≤1073741824) :
  Calls Tryz.prog 13 #[.slice a n cap,.int .i64 k] w (Rt (.int .i64 ((k+n*6:Nat):Int)) w):=by
 have HI:=iH hin;clear hin;go_enter Tryz.func13,Tryz.ntmps13;go_wp2_with fail;go_loopw [1,5] (fun v i wr=>∃ j:Nat,j≤n∧i=.int .i64 j∧v=.int .i64 ((k+j*6:Nat):Int)∧Hid (Below w.heap.size w wr)) (fun _ i _=>n - (intOf i).toNat)
 case atStart=>exact ⟨0,zL,rfl,by simp,Below.refl _ _⟩
 case round =>
  obtain ⟨j,hj,rfl,rfl,hB⟩:=hrel;by_cases hlt:j<n
  ·have hM:=HI.out.below hB.out
   obtain ⟨g,rfl,hc⟩:∃ g,a=some ⟨g,0,none⟩∧MkC wr g (n*7) k:=by
    rcases hM with h | h
    ·omega
    ·exact h
   have HC0:=iH hc;have HB0:=iH hB.out;have i0:(0:Int)≤(j:Int):=by omega
   have i1:(j:Int)<(n:Int):=by omega
   have hkb:k+j*6+6≤1073741824:=by omega
   clear hc hM hB;obtain ⟨y0,hy0⟩:∃ y:Nat,y=k+j*6:=⟨_,rfl⟩;have HY0:=iH hy0;have hs0:((k+j*6:Nat):Int)=(y0:Int):=by rw [hy0]
   rw [hs0];have hyl0:y0+6≤1073741824:=by omega
   have hyp0:0<y0:=by omega
   clear hy0 hs0;have c0:wr.cell? ⟨g,j*7,none⟩=some (.int .i64 (y0:Int)):=by
    have h:=HC0.out (j*7) (by omega);rw [dC] at h;rw [HY0.out];exact h
   go_upto_region 7 with fail;clear c0;obtain ⟨y1,hy1⟩:∃ y:Nat,y=y0+1:=⟨_,rfl⟩;have hs1:((y0:Int)+1)=(y1:Int):=by omega
   rw [hs1];have HY1:Hid (y1=k+j*6+1):=by have:=HY0.out;show _=_;omega
   have hyl1:y1+5≤1073741824:=by omega
   have hyp1:0<y1:=by omega
   clear hs1 hy1;have c1:wr.cell? ⟨g,j*7+1,none⟩=some (.string (Bj y1)):=by
    have h:=HC0.out (j*7+1) (by omega);rw [dB] at h;rw [HY1.out];exact h
   have HCC:=iH c1;go_upto_region 7 with fail;refine wp_region_held_drew (S:=fun wy=>wy.cell? ⟨g,j*7+1,none⟩=some (.string (Bj y1))) (by kernel_rfl) (by simpa using c1) (fun hS=>?_);refine tz 0 21 (.slice (some ⟨g,0,none⟩) n cap) rfl hS ?_;simp only [pX];refine tz 1 22 (.int .i64 (j:Int)) rfl hS ?_;simp only [pX];refine ty 2 ⟨some 23,_,_,_,_,none⟩ (.pointer (some ⟨g,j*7,none⟩)) rfl (by rfl) ?_ hS ?_
   ·intro wy hy
    clear hy
    first | (go_simp;done) | (go_simp;omega) | (go_simp;intro hh;omega)
   simp only [pX];refine tz 3 24 (.pointer (some ⟨g,j*7+1,none⟩)) rfl hS ?_;simp only [pX];refine ty 4 ⟨some 25,_,_,_,_,none⟩ (.string (Bj y1)) rfl (by rfl) ?_ hS ?_
   ·intro wy hy
    have h0:=hy;clear hy;go_simp
   simp only [pX];refine tz 5 26 (.int .i64 (y1:Int)) rfl hS ?_;simp only [pX];refine rd1 6 ⟨some 27,_,_,_,_,none⟩ rfl (fun K hK=>?_);go_simp;refine (Ax y1 _ (by omega) (by omega)).mono ?_;rintro e wm1 ⟨rfl,hb1⟩;have hd:Below wr.heap.size wr wm1:=(Below.refl _ wr).drew.trans hb1;have HB1:=qTH HB0 hd;have HC1:=iH (HC0.out.below hd);refine hK.out _ _ ((hd.cell (p:=⟨g,j*7+1,none⟩) (block_lt_of_cell c1)).trans HCC) (fun hS=>?_);clear hK K;clear hb1 hd HCC c1 HB0 HC0;refine tz 7 28 (.bool false) rfl hS ?_;simp only [pX];refine td ?_;clear hS;go_upto_region 10 with fail;obtain ⟨y2,hy2⟩:∃ y:Nat,y=y1+1:=⟨_,rfl⟩;have hs2:((y1:Int)+1)=(y2:Int):=by omega
   rw [hs2];have HY2:Hid (y2=k+j*6+2):=by have:=HY1.out;show _=_;omega
   have hyl2:y2+4≤1073741824:=by omega
   have hyp2:0<y2:=by omega
   clear hs2 hy2;have c2:wm1.cell? ⟨g,j*7+2,none⟩=some (.int .i64 (y2:Int)):=by
    have h:=HC1.out (j*7+2) (by omega);rw [cT] at h;rw [HY2.out];exact h
   go_upto_region 13 with fail;clear c2;obtain ⟨y3,hy3⟩:∃ y:Nat,y=y2+1:=⟨_,rfl⟩;have hs3:((y2:Int)+1)=(y3:Int):=by omega
   rw [hs3];have HY3:Hid (y3=k+j*6+3):=by have:=HY2.out;show _=_;omega
   have hyl3:y3+3≤1073741824:=by omega
   have hyp3:0<y3:=by omega
   clear hs3 hy3;have k3:wm1.cell? ⟨g,j*7+3,none⟩=some (.slice none 0 0):=by have h:=HC1.out (j*7+3) (by omega);rw [dI] at h;exact h
   go_wp2_with fail;refine (Py _ _).mono ?_;rintro e wn ⟨rfl,hbn⟩;have HC2:=iH (HC1.out.below hbn);have HB2:=qTH HB1 hbn;clear k3 hbn HC1 HB1;go_upto_region 16 with fail;have c4:wn.cell? ⟨g,j*7+4,none⟩=some (.string (Bj y3)):=by
    have h:=HC2.out (j*7+4) (by omega);rw [dH] at h;rw [HY3.out];exact h
   have HCC:=iH c4;go_upto_region 16 with fail;refine wp_region_held_drew (S:=fun wy=>wy.cell? ⟨g,j*7+4,none⟩=some (.string (Bj y3))) (by kernel_rfl) (by simpa using c4) (fun hS=>?_);refine tz 0 49 (.slice (some ⟨g,0,none⟩) n cap) rfl hS ?_;simp only [pX];refine tz 1 50 (.int .i64 (j:Int)) rfl hS ?_;simp only [pX];refine ty 2 ⟨some 51,_,_,_,_,none⟩ (.pointer (some ⟨g,j*7,none⟩)) rfl (by rfl) ?_ hS ?_
   ·intro wy hy
    clear hy
    first | (go_simp;done) | (go_simp;omega) | (go_simp;intro hh;omega)
   simp only [pX];refine tz 3 52 (.pointer (some ⟨g,j*7+4,none⟩)) rfl hS ?_;simp only [pX];refine ty 4 ⟨some 53,_,_,_,_,none⟩ (.string (Bj y3)) rfl (by rfl) ?_ hS ?_
   ·intro wy hy
    have h0:=hy;clear hy;go_simp
   simp only [pX];refine tz 5 54 (.int .i64 (y3:Int)) rfl hS ?_;simp only [pX];refine rd1 6 ⟨some 55,_,_,_,_,none⟩ rfl (fun K hK=>?_);go_simp;refine (Ax y3 _ (by omega) (by omega)).mono ?_;rintro e wm4 ⟨rfl,hb1⟩;have hd:Below wn.heap.size wn wm4:=(Below.refl _ wn).drew.trans hb1;have HB3:=qTH HB2 hd;have HC3:=iH (HC2.out.below hd);refine hK.out _ _ ((hd.cell (p:=⟨g,j*7+4,none⟩) (block_lt_of_cell c4)).trans HCC) (fun hS=>?_);clear hK K;clear hb1 hd HCC c4 HB2 HC2;refine tz 7 56 (.bool false) rfl hS ?_;simp only [pX];refine td ?_;clear hS;go_upto_region 19 with fail;obtain ⟨y4,hy4⟩:∃ y:Nat,y=y3+1:=⟨_,rfl⟩;have hs4:((y3:Int)+1)=(y4:Int):=by omega
   rw [hs4];have HY4:Hid (y4=k+j*6+4):=by have:=HY3.out;show _=_;omega
   have hyl4:y4+2≤1073741824:=by omega
   have hyp4:0<y4:=by omega
   clear hs4 hy4;have c5:wm4.cell? ⟨g,j*7+5,none⟩=some (.string (Bj y4)):=by
    have h:=HC3.out (j*7+5) (by omega);rw [dG] at h;rw [HY4.out];exact h
   have HCC:=iH c5;go_upto_region 19 with fail;refine wp_region_held_drew (S:=fun wy=>wy.cell? ⟨g,j*7+5,none⟩=some (.string (Bj y4))) (by kernel_rfl) (by simpa using c5) (fun hS=>?_);refine tz 0 59 (.slice (some ⟨g,0,none⟩) n cap) rfl hS ?_;simp only [pX];refine tz 1 60 (.int .i64 (j:Int)) rfl hS ?_;simp only [pX];refine ty 2 ⟨some 61,_,_,_,_,none⟩ (.pointer (some ⟨g,j*7,none⟩)) rfl (by rfl) ?_ hS ?_
   ·intro wy hy
    clear hy
    first | (go_simp;done) | (go_simp;omega) | (go_simp;intro hh;omega)
   simp only [pX];refine tz 3 62 (.pointer (some ⟨g,j*7+5,none⟩)) rfl hS ?_;simp only [pX];refine ty 4 ⟨some 63,_,_,_,_,none⟩ (.string (Bj y4)) rfl (by rfl) ?_ hS ?_
   ·intro wy hy
    have h0:=hy;clear hy;go_simp
   simp only [pX];refine tz 5 64 (.int .i64 (y4:Int)) rfl hS ?_;simp only [pX];refine rd1 6 ⟨some 65,_,_,_,_,none⟩ rfl (fun K hK=>?_);go_simp;refine (Ax y4 _ (by omega) (by omega)).mono ?_;rintro e wm5 ⟨rfl,hb1⟩;have hd:Below wm4.heap.size wm4 wm5:=(Below.refl _ wm4).drew.trans hb1;have HB4:=qTH HB3 hd;have HC4:=iH (HC3.out.below hd);refine hK.out _ _ ((hd.cell (p:=⟨g,j*7+5,none⟩) (block_lt_of_cell c5)).trans HCC) (fun hS=>?_);clear hK K;clear hb1 hd HCC c5 HB3 HC3;refine tz 7 66 (.bool false) rfl hS ?_;simp only [pX];refine td ?_;clear hS;go_upto_region 22 with fail;obtain ⟨y5,hy5⟩:∃ y:Nat,y=y4+1:=⟨_,rfl⟩;have hs5:((y4:Int)+1)=(y5:Int):=by omega
   rw [hs5];have HY5:Hid (y5=k+j*6+5):=by have:=HY4.out;show _=_;omega
   have hyl5:y5+1≤1073741824:=by omega
   have hyp5:0<y5:=by omega
   clear hs5 hy5;have c6:wm5.cell? ⟨g,j*7+6,none⟩=some (.int .i64 (y5:Int)):=by
    have h:=HC4.out (j*7+6) (by omega);rw [dE] at h;rw [HY5.out];exact h
   have hend:((y5:Int)+1)=((k+(j+1)*6:Nat):Int):=by have:=HY5.out;omega
   go_wp2_with fail;go_roundw
   case rel=>exact ⟨j+1,by omega,by go_num,by first | rw [hend] | go_num,HB4⟩
   case measure=>simp [intOf];omega
  ·have hje:j=n:=by omega
   subst hje;go_wp2_with fail;go_ret;exact ⟨rfl,hB.out⟩
end Go.Proofs.YtkiloaiffopllaaGreat
