import Derived.Test.YtpeajnkkdioflaaGreatMry
import Derived.Test.YtpeajnkkdioflaaGreatJ38
set_option maxHeartbeats 2000000
namespace Go.Proofs.YtpeajnkkdioflaaGreat
set_option maxRecDepth 100000
open Go.RowKit
def KpI (lo hi:Nat) (a b:World):Prop:=a.heap.size≤b.heap.size∧∀ x,lo≤x→x<hi→x<a.heap.size→∀ o,b.cell? ⟨x,o,none⟩=a.cell? ⟨x,o,none⟩∧b.frozen? ⟨x,o,none⟩=a.frozen? ⟨x,o,none⟩
theorem KpI.refl (lo hi:Nat) (a:World):KpI lo hi a a:=⟨Nat.le_refl _,fun _ _ _ _ _=>⟨rfl,rfl⟩⟩
theorem KpI.trans {lo hi:Nat} {a b c:World} (h:KpI lo hi a b) (k:KpI lo hi b c):KpI lo hi a c:=⟨Nat.le_trans h.1 k.1,fun x h1 h2 h3 o=>⟨(k.2 x h1 h2 (Nat.lt_of_lt_of_le h3 h.1) o).1.trans (h.2 x h1 h2 h3 o).1,(k.2 x h1 h2 (Nat.lt_of_lt_of_le h3 h.1) o).2.trans (h.2 x h1 h2 h3 o).2⟩⟩
theorem KpI.below {lo hi:Nat} {a b:World} (h:Below a.heap.size a b):KpI lo hi a b:=⟨h.size,fun x _ _ h3 o=>⟨h.cell (p:=⟨x,o,none⟩) h3,h.frozen (p:=⟨x,o,none⟩) h3⟩⟩
theorem KpI.keeps {lo hi l:Nat} {a b:World} (h:Keeps l a b) (hl:l≤lo):KpI lo hi a b:=⟨h.1,fun x h1 _ h3 o=>h.2 x o (Nat.le_trans hl h1) h3⟩
theorem KpI.cell {lo hi b o:Nat} {a c:World} (h:KpI lo hi a c) (h1:lo≤b) (h2:b<hi) (h3:b<a.heap.size):c.cell? ⟨b,o,none⟩=a.cell? ⟨b,o,none⟩:=(h.2 b h1 h2 h3 o).1
theorem KpI.frozen {lo hi b o:Nat} {a c:World} (h:KpI lo hi a c) (h1:lo≤b) (h2:b<hi) (h3:b<a.heap.size):c.frozen? ⟨b,o,none⟩=a.frozen? ⟨b,o,none⟩:=(h.2 b h1 h2 h3 o).2
structure Out (lo hi:Nat) (a b:World):Prop where
 os:b.os=a.os
 tape:b.tape=a.tape
 output:b.output=a.output
 size:a.heap.size≤b.heap.size
 block:∀ x,x<a.heap.size→x<lo∨hi≤x→b.heap[x]?=a.heap[x]?
theorem Out.of_below {lo hi:Nat} {a b:World} (h:Below a.heap.size a b):Out lo hi a b:=⟨h.os,h.tape,h.output,h.size,fun x hx _=>h.block x hx⟩
theorem Out.trans {lo hi:Nat} {a b c:World} (h:Out lo hi a b) (k:Out lo hi b c):Out lo hi a c:=⟨k.os.trans h.os,k.tape.trans h.tape,k.output.trans h.output,Nat.le_trans h.size k.size,fun x hx ho=>(k.block x (Nat.lt_of_lt_of_le hx h.size) ho).trans (h.block x hx ho)⟩
theorem Out.wide {lo hi lo' hi':Nat} {a b:World} (h:Out lo hi a b) (h1:lo'≤lo) (h2:hi≤hi'):Out lo' hi' a b:=⟨h.os,h.tape,h.output,h.size,fun x hx ho=>h.block x hx (by omega)⟩
theorem Out.kpi {lo hi lo' hi':Nat} {a b:World} (h:Out lo hi a b) (hd:hi≤lo'∨hi'≤lo):KpI lo' hi' a b:=⟨h.size,fun x h1 h2 h3 o=>⟨World.cell?_of_block (a:=⟨x,o,none⟩) (h.block x h3 (by omega)),World.frozen?_of_block (a:=⟨x,o,none⟩) (h.block x h3 (by omega))⟩⟩
theorem Out.bel {lo hi:Nat} {a b:World} (h:Out lo hi a b) (hl:lo≤a.heap.size):Below lo a b:=⟨h.os,h.tape,h.output,h.size,fun k hk=>h.block k (by omega) (.inl hk)⟩
theorem Wr.out {L:List (Nat×Nat×Nat)} {a b:World} {lo hi:Nat} (h:Wr L a b) (hl:∀ x p c,(x,p,c)∈L→lo≤x∧x<hi):Out lo hi a b:=⟨h.os,h.tape,h.output,h.size,fun x hx ho=>h.block x hx (fun p c hm=>by have:=hl x p c hm;omega)⟩
theorem Mk.kpi {L:List (Nat×Nat×Nat)} {a b:World} {lo hi k:Nat} (h:Mk a L k) (hk:KpI lo hi a b) (hl:∀ x p c,(x,p,c)∈L→lo≤x∧x<hi):Mk b L k:=fun j x p c hj=>by
 have h1:=h j x p c hj;have h2:=hl x p c (List.mem_of_getElem? hj);exact (hk.cell h2.1 h2.2 (block_lt_of_cell h1)).trans h1
def LA (mf hf:FuncId) (v:Value) (W:World) (lo hi len:Nat):Prop :=
 ∀ (w:World) (k:Nat),KpI lo hi W w→0<k→k+len≤1073741824→Calls Tryz.prog mf #[v,.int .i64 (k:Int)] w fun e w'=>e=.returned (.int .i64 ((k+len:Nat):Int))∧Out lo hi w w'∧∀ w2,KpI lo hi w' w2→Calls Tryz.prog hf #[v,.int .i64 (k:Int)] w2 fun e w3=>e=.returned (.int .i64 ((k+len:Nat):Int))∧Below w2.heap.size w2 w3
theorem LA.at {mf hf:FuncId} {v:Value} {W W':World} {lo hi len:Nat} (h:LA mf hf v W lo hi len) (hk:KpI lo hi W W'):LA mf hf v W' lo hi len:=fun w k h1 h2 h3=>h w k (hk.trans h1) h2 h3
theorem LA.hi {mf hf:FuncId} {v:Value} {W:World} {lo hi hi' len:Nat} (h:LA mf hf v W lo hi len) (hh:hi≤hi'):LA mf hf v W lo hi' len:=fun w k h1 h2 h3=>by
 refine (h w k ⟨h1.1,fun x a b c=>h1.2 x a (by omega) c⟩ h2 h3).mono ?_;rintro e w' ⟨rfl,ho,hd⟩;exact ⟨rfl,ho.wide nL hh,fun w2 hk=>hd w2 ⟨hk.1,fun x a b c=>hk.2 x a (by omega) c⟩⟩
theorem Tj (a:Option Addr) (cap T:Nat) (w:World) :
  Calls Tryz.prog 33 #[.slice a 0 cap,.int .i64 (T:Int)] w fun e w'=>e=.returned (.int .i64 (T:Int))∧w'=w:=by
 go_enter Tryz.func33,Tryz.ntmps33;go_wp2_with fail;go_loopw [1,5] (fun v i wr=>v=.int .i64 (T:Int)∧i=.int .i64 0∧wr=w) (fun _ _ _=>0)
 case atStart=>exact ⟨rfl,rfl,rfl⟩
 case round =>
  obtain ⟨rfl,rfl,rfl⟩:=hrel;go_wp2_with fail;go_ret;exact ⟨rfl,rfl⟩
theorem Tc (a:Option Addr) (cap T:Nat) (w:World) :
  Calls Tryz.prog 36 #[.slice a 0 cap,.int .i64 (T:Int)] w fun e w'=>e=.returned (.int .i64 (T:Int))∧w'=w:=by
 go_enter Tryz.func36,Tryz.ntmps36;go_wp2_with fail;go_loopw [1,5] (fun v i wr=>v=.int .i64 (T:Int)∧i=.int .i64 0∧wr=w) (fun _ _ _=>0)
 case atStart=>exact ⟨rfl,rfl,rfl⟩
 case round =>
  obtain ⟨rfl,rfl,rfl⟩:=hrel;go_wp2_with fail;go_ret;exact ⟨rfl,rfl⟩
theorem Sr (a:Option Addr) (cap T:Nat) (w:World) :
  Calls Tryz.prog 34 #[.slice a 0 cap,.int .i64 (T:Int)] w fun e w'=>e=.returned (.int .i64 (T:Int))∧w'=w:=by
 go_enter Tryz.func34,Tryz.ntmps34;go_wp2_with fail;go_loopw [1,5] (fun v i wr=>v=.int .i64 (T:Int)∧i=.int .i64 0∧wr=w) (fun _ _ _=>0)
 case atStart=>exact ⟨rfl,rfl,rfl⟩
 case round =>
  obtain ⟨rfl,rfl,rfl⟩:=hrel;go_wp2_with fail;go_ret;exact ⟨rfl,rfl⟩
theorem Tx (a:Option Addr) (cap T:Nat) (w:World) :
  Calls Tryz.prog 37 #[.slice a 0 cap,.int .i64 (T:Int)] w fun e w'=>e=.returned (.int .i64 (T:Int))∧w'=w:=by
 go_enter Tryz.func37,Tryz.ntmps37;go_wp2_with fail;go_loopw [1,5] (fun v i wr=>v=.int .i64 (T:Int)∧i=.int .i64 0∧wr=w) (fun _ _ _=>0)
 case atStart=>exact ⟨rfl,rfl,rfl⟩
 case round =>
  obtain ⟨rfl,rfl,rfl⟩:=hrel;go_wp2_with fail;go_ret;exact ⟨rfl,rfl⟩
theorem LA.nilCnt (a:Option Addr) (cap:Nat) (W:World) (lo hi:Nat):LA 35 38 (.slice a 0 cap) W lo hi 0:=by
 intro w k _ _ _;refine (Ky a cap k w).mono ?_;rintro e w' ⟨rfl,rfl⟩;refine ⟨rfl,Out.of_below (Below.refl _ _),fun w2 _=>?_⟩;refine (Ls a cap k w2).mono ?_;rintro e w3 ⟨rfl,rfl⟩;exact ⟨rfl,Below.refl _ _⟩
theorem LA.nilRwp (a:Option Addr) (cap:Nat) (W:World) (lo hi:Nat):LA 33 36 (.slice a 0 cap) W lo hi 0:=by
 intro w k _ _ _;refine (Tj a cap k w).mono ?_;rintro e w' ⟨rfl,rfl⟩;refine ⟨rfl,Out.of_below (Below.refl _ _),fun w2 _=>?_⟩;refine (Tc a cap k w2).mono ?_;rintro e w3 ⟨rfl,rfl⟩;exact ⟨rfl,Below.refl _ _⟩
theorem LA.nilZnr (a:Option Addr) (cap:Nat) (W:World) (lo hi:Nat):LA 34 37 (.slice a 0 cap) W lo hi 0:=by
 intro w k _ _ _;refine (Sr a cap k w).mono ?_;rintro e w' ⟨rfl,rfl⟩;refine ⟨rfl,Out.of_below (Below.refl _ _),fun w2 _=>?_⟩;refine (Tx a cap k w2).mono ?_;rintro e w3 ⟨rfl,rfl⟩;exact ⟨rfl,Below.refl _ _⟩
theorem EnW.own {w:World} {base:Nat} {T:TypeId} {m b n c:Nat} {cs:List Value} (h:w.ownsRow base T m (.slice (some ⟨b,0,none⟩) n c) n cs):EnW w b 0 (n*m) :=
 ⟨fun t ht=>⟨cs[t]'(by rw [h.1];exact ht),by rw [Nat.zero_add];exact (h.cellAt t ht).trans (List.getElem?_eq_getElem (by rw [h.1];exact ht))⟩,fun p=>h.frozenAt p⟩
theorem EnW.kpi {w w':World} {b n lo hi:Nat} (h:EnW w b 0 n) (hk:KpI lo hi w w') (h1:lo≤b) (h2:b<hi) (h3:b<w.heap.size):EnW w' b 0 n :=
 ⟨fun t ht=>by obtain ⟨u,hu⟩:=h.1 t ht;exact ⟨u,(hk.cell h1 h2 h3).trans hu⟩,fun p=>(hk.frozen h1 h2 h3).trans (h.2 p)⟩
theorem SubW.of {w:World} {base g t m n c q L:Nat} {tag:Nat→Nat} {T:TypeId} {a:Option Addr} {cs:List Value} (h:w.ownsRow base T m (.slice a n c) n cs) (hb:∀ b,(Value.slice a n c).ownBlock=some b→some b≠(Value.slice (some ⟨g,0,none⟩) L q).ownBlock∧tag b=t):SubW w g base w.heap.size tag t a n m:=by
 rcases h.2 with ⟨_,hn⟩ | ⟨b,cap,cur,hv,_⟩
 ·exact .inl hn
 ·have e:a=some ⟨b,0,none⟩:=by injection hv
  subst e;obtain ⟨h1,h2⟩:=h.lt b rfl;obtain ⟨h3,h4⟩:=hb b rfl;exact .inr ⟨b,rfl,fun e=>h3 (by rw [e];rfl),h2,EnW.own h,h4,h1,h2⟩
theorem SubW.kpi {w w':World} {g lo hi t n m:Nat} {tag:Nat→Nat} {a:Option Addr} (h:SubW w g lo hi tag t a n m) (hk:KpI lo hi w w'):SubW w' g lo hi tag t a n m:=by
 rcases h with h | ⟨b,e,h1,h2,h3,h4,h5,h6⟩
 ·exact .inl h
 ·exact .inr ⟨b,e,h1,Nat.lt_of_lt_of_le h2 hk.1,h3.kpi hk h5 h6 h2,h4,h5,h6⟩
theorem SubW.add {w:World} {g lo hi t n m:Nat} {tag:Nat→Nat} {a:Option Addr} (h:SubW w g lo hi tag t a n m):n=0∨∃ b,a=some ⟨b,0,none⟩:=by
 rcases h with h | ⟨b,e,_⟩
 ·exact .inl h
 ·exact .inr ⟨b,e⟩
theorem LA.cnt {W:World} {a:Option Addr} {n q base top:Nat} {T:TypeId} {cs:List Value} (h:W.ownsRow base T 4 (.slice a n q) n cs) (ht:∀ b o s,a=some ⟨b,o,s⟩→b<top):LA 35 38 (.slice a n q) W base top (n*4):=by
 rcases h.2 with ⟨hv,hn⟩ | ⟨g,cap,cur,hv,_⟩
 ·rw [hn]
  exact LA.nilCnt a q W base top
 ·have e:a=some ⟨g,0,none⟩:=by injection hv
  subst e;obtain ⟨hg1,hg2⟩:=h.lt g rfl;have hg3:=ht g 0 none rfl;have bd:∀ x p c,(x,p,c)∈LCb g n→base≤x∧x<top:=fun x p c hm=>by rw [(Lu hm).1];exact ⟨hg1,hg3⟩
  intro w k hk h0 h1;refine (Lt g n q k w ((EnW.own h).kpi hk hg1 hg3 hg2) (Nat.lt_of_lt_of_le hg2 hk.1) h0 h1).mono ?_;rintro e w' ⟨rfl,hW,hM⟩;exact ⟨rfl,hW.out bd,fun w2 hk2=>Kw g n q k w2 (hM.kpi hk2 bd) h0 h1⟩
theorem AnZnr.kpi {W:World} {g N lo hi:Nat} {tag:Nat→Nat} {e0:Nat→Option Addr} {m0 c0:Nat→Nat} {w:World} (h:AnZnr W g N lo hi tag e0 m0 c0) (hk:KpI lo hi W w):AnZnr w g N lo hi tag e0 m0 c0 :=
 ⟨Nat.lt_of_lt_of_le h.lt hk.1,h.glo,h.ghi,fun p hp=>by obtain ⟨u,hu⟩:=h.row p hp;exact ⟨u,(hk.cell h.glo h.ghi h.lt).trans hu⟩,fun p=>(hk.frozen h.glo h.ghi h.lt).trans (h.rfz p),fun j hj=>(hk.cell h.glo h.ghi h.lt).trans (h.sl0 j hj),fun j hj=>(h.en0 j hj).kpi hk⟩
theorem Qm {W:World} {g N lo hi:Nat} {tag:Nat→Nat} {e0:Nat→Option Addr} {m0 c0:Nat→Nat} {B:Nat} (h:AnZnr W g N lo hi tag e0 m0 c0) (hB:∀ j,j<N→1+m0 j*4≤B):∀ J,J≤N→(LZn g e0 m0 J).length≤J*B
 | 0,_=>Nat.zero_le _
 | J+1,hJ=>by
  have h1:=Qm h hB J (by omega);have h2:=hB J (by omega);have s0:=Jc (h.en0 J (by omega));simp only [LZn,List.length_append,List.length_cons,List.length_nil,Nat.add_mul];omega
theorem LA.rZnr {W:World} {g N lo hi:Nat} {tag:Nat→Nat} {e0:Nat→Option Addr} {m0 c0:Nat→Nat} (h:AnZnr W g N lo hi tag e0 m0 c0) (hN:N≤1048576) (cap:Nat):LA 34 37 (.slice (some ⟨g,0,none⟩) N cap) W lo hi (LZn g e0 m0 N).length:=by
 have bd:∀ x p c,(x,p,c)∈LZn g e0 m0 N→lo≤x∧x<hi:=fun x p c hm=>by
  rcases Pk h nL hm with ⟨h1,_⟩ | ⟨_,_,h2⟩
  ·rw [h1];exact ⟨h.glo,h.ghi⟩
  ·exact h2
 intro w k hk h0 h1;have hA:=h.kpi hk;refine (Sq g N e0 m0 c0 cap k w hA hN h0 h1).mono ?_;rintro e w' ⟨rfl,hW,hM⟩;refine ⟨rfl,hW.out bd,fun w2 hk2=>?_⟩;exact Sa g N e0 m0 c0 cap k w2 (hM.kpi hk2 bd) (fun j hj=>(hk2.cell h.glo h.ghi (Nat.lt_of_lt_of_le hA.lt hW.size)).trans ((hW.cell g _ hA.lt (fun c=>Rf hA nL j c)).trans (hA.sl0 j hj))) (fun j hj=>(hA.en0 j hj).add) hN h0 h1
theorem AnRwp.kpi {W:World} {g N lo hi:Nat} {tag:Nat→Nat} {e0:Nat→Option Addr} {m0 c0:Nat→Nat} {e1:Nat→Option Addr} {m1 c1:Nat→Nat} {w:World} (h:AnRwp W g N lo hi tag e0 m0 c0 e1 m1 c1) (hk:KpI lo hi W w):AnRwp w g N lo hi tag e0 m0 c0 e1 m1 c1 :=
 ⟨Nat.lt_of_lt_of_le h.lt hk.1,h.glo,h.ghi,fun p hp=>by obtain ⟨u,hu⟩:=h.row p hp;exact ⟨u,(hk.cell h.glo h.ghi h.lt).trans hu⟩,fun p=>(hk.frozen h.glo h.ghi h.lt).trans (h.rfz p),fun j hj=>(hk.cell h.glo h.ghi h.lt).trans (h.sl0 j hj),fun j hj=>(h.en0 j hj).kpi hk,fun j hj=>(hk.cell h.glo h.ghi h.lt).trans (h.sl1 j hj),fun j hj=>(h.en1 j hj).kpi hk⟩
theorem Qw {W:World} {g N lo hi:Nat} {tag:Nat→Nat} {e0:Nat→Option Addr} {m0 c0:Nat→Nat} {e1:Nat→Option Addr} {m1 c1:Nat→Nat} {B:Nat} (h:AnRwp W g N lo hi tag e0 m0 c0 e1 m1 c1) (hB:∀ j,j<N→8+m0 j+m1 j*4≤B):∀ J,J≤N→(LRw g e0 m0 e1 m1 J).length≤J*B
 | 0,_=>Nat.zero_le _
 | J+1,hJ=>by
  have h1:=Qw h hB J (by omega);have h2:=hB J (by omega);have s0:=Vm (h.en0 J (by omega));have s1:=Jc (h.en1 J (by omega));simp only [LRw,List.length_append,List.length_cons,List.length_nil,Nat.add_mul];omega
theorem LA.rRwp {W:World} {g N lo hi:Nat} {tag:Nat→Nat} {e0:Nat→Option Addr} {m0 c0:Nat→Nat} {e1:Nat→Option Addr} {m1 c1:Nat→Nat} (h:AnRwp W g N lo hi tag e0 m0 c0 e1 m1 c1) (hN:N≤1048576) (cap:Nat):LA 33 36 (.slice (some ⟨g,0,none⟩) N cap) W lo hi (LRw g e0 m0 e1 m1 N).length:=by
 have bd:∀ x p c,(x,p,c)∈LRw g e0 m0 e1 m1 N→lo≤x∧x<hi:=fun x p c hm=>by
  rcases Ki h nL hm with ⟨h1,_⟩ | ⟨_,_,h2⟩
  ·rw [h1];exact ⟨h.glo,h.ghi⟩
  ·exact h2
 intro w k hk h0 h1;have hA:=h.kpi hk;refine (Uc g N e0 m0 c0 e1 m1 c1 cap k w hA hN h0 h1).mono ?_;rintro e w' ⟨rfl,hW,hM⟩;refine ⟨rfl,hW.out bd,fun w2 hk2=>?_⟩;exact Tu g N e0 m0 c0 e1 m1 c1 cap k w2 (hM.kpi hk2 bd) (fun j hj=>(hk2.cell h.glo h.ghi (Nat.lt_of_lt_of_le hA.lt hW.size)).trans ((hW.cell g _ hA.lt (fun c=>Qi hA nL j c)).trans (hA.sl0 j hj))) (fun j hj=>(hA.en0 j hj).add) (fun j hj=>(hk2.cell h.glo h.ghi (Nat.lt_of_lt_of_le hA.lt hW.size)).trans ((hW.cell g _ hA.lt (fun c=>Qy hA nL j c)).trans (hA.sl1 j hj))) (fun j hj=>(hA.en1 j hj).add) hN h0 h1
theorem Ua {base n s:Nat} {w:World} {e:TypeId} {cs:List Value} {v:Value} (h:w.ownsRow base e s v n cs):∃ (a:Option Addr) (c:Nat),v=.slice a n c:=by
 rcases h.2 with ⟨hv,hn⟩ | ⟨g,cap,_,hv,_⟩
 ·exact ⟨none,0,by rw [hv,hn]⟩
 ·exact ⟨_,cap,hv⟩
theorem lK {w:World} {base q B:Nat} {a:Option Addr} {l:List Znr} (h:RwG vZn kP 2 95 base w (.slice a l.length q) l) (hN:l.length≤1048576) (hB:∀ x∈l,1+x.counts.length*4≤B):∃ len,len≤l.length*B∧LA 34 37 (.slice a l.length q) w base w.heap.size len:=by
 obtain ⟨cs,S,tag,h1,h2⟩:=h;rcases h1.2 with ⟨hv,hn⟩ | ⟨g,cap,cur,hv,_⟩
 ·rw [hn]
  exact ⟨0,Nat.zero_le _,LA.nilZnr a q w base _⟩
 ·have e:a=some ⟨g,0,none⟩:=by injection hv
  subst e;obtain ⟨hg1,hg2⟩:=h1.lt g rfl;have el:∀ j:Nat,j<l.length→∃ x,l[j]?=some x:=fun j hj=>⟨l[j],List.getElem?_eq_getElem hj⟩
  have key:∀ j:Nat,∃ p:Option Addr×Nat,∀ x,l[j]?=some x→w.cell? ⟨g,j*2+1,none⟩=some (.slice p.1 x.counts.length p.2)∧SubW w g base w.heap.size tag (2*j) p.1 x.counts.length 4:=by
   intro j
   cases e:l[j]? with
   | none=>exact ⟨(none,0),fun x hx=>by cases hx⟩
   | some y =>
    obtain ⟨hl,q1,q2⟩:=h2 j y e;obtain ⟨s,hS⟩:∃ s,S j=[s]:=by
     match hh:S j,hl with
     | [s],_=>exact ⟨s,rfl⟩
    rw [hS] at q1 q2;have hlt:=Ad e;obtain ⟨k0,b0⟩:=q2 0 s _ rfl rfl;replace k0:w.ownsRow base 125 4 s y.counts.length (Am y.counts):=k0;obtain ⟨a0,d0,rfl⟩:=Ua k0;have f0:w.cell? ⟨g,j*2+1,none⟩=some (.slice a0 y.counts.length d0):=(h1.cellAt (j*2+1) (by omega)).trans (q1 1 _ rfl);refine ⟨(a0,d0),fun x hx=>?_⟩;cases hx
    exact ⟨f0,SubW.of k0 b0⟩
  obtain ⟨F,hF⟩:=Classical.axiomOfChoice key;have nse:∀ (j:Nat) (x:Znr),l[j]?=some x→((l[j]?).elim 0 (fun x=>x.counts.length))=x.counts.length:=fun j x hx=>by rw [hx];exact rfl
  have hA:AnZnr w g l.length base w.heap.size tag (fun j=>(F j).1) (fun j=>(l[j]?).elim 0 (fun x=>x.counts.length)) (fun j=>(F j).2):=by
   refine ⟨hg2,hg1,hg2,fun p hp=>⟨cs[p]'(by rw [h1.1];exact hp),(h1.cellAt p hp).trans (List.getElem?_eq_getElem (by rw [h1.1];exact hp))⟩,fun p=>h1.frozenAt p,fun j hj=>?_,fun j hj=>?_⟩
   ·obtain ⟨x,hx⟩:=el j hj
    have h8:=nse j x hx;simp only [h8];exact (hF j x hx).1
   ·obtain ⟨x,hx⟩:=el j hj
    have h8:=nse j x hx;simp only [h8];exact (hF j x hx).2
  refine ⟨_,Qm hA (fun j hj=>?_) l.length nL,LA.rZnr hA hN q⟩;obtain ⟨x,hx⟩:=el j hj;have h9:=hB x (List.mem_of_getElem? hx);have h8:=nse j x hx;simp only [h8];exact h9
theorem lI {w:World} {base q B:Nat} {a:Option Addr} {l:List Rwp} (h:RwG vRw kS 10 92 base w (.slice a l.length q) l) (hN:l.length≤1048576) (hB:∀ x∈l,8+x.berth.marks.length+x.counts.length*4≤B):∃ len,len≤l.length*B∧LA 33 36 (.slice a l.length q) w base w.heap.size len:=by
 obtain ⟨cs,S,tag,h1,h2⟩:=h;rcases h1.2 with ⟨hv,hn⟩ | ⟨g,cap,cur,hv,_⟩
 ·rw [hn]
  exact ⟨0,Nat.zero_le _,LA.nilRwp a q w base _⟩
 ·have e:a=some ⟨g,0,none⟩:=by injection hv
  subst e;obtain ⟨hg1,hg2⟩:=h1.lt g rfl;have el:∀ j:Nat,j<l.length→∃ x,l[j]?=some x:=fun j hj=>⟨l[j],List.getElem?_eq_getElem hj⟩
  have key:∀ j:Nat,∃ p:(Option Addr×Nat)×Option Addr×Nat,∀ x,l[j]?=some x→w.cell? ⟨g,j*10+2,none⟩=some (.slice p.1.1 x.berth.marks.length p.1.2)∧SubW w g base w.heap.size tag (2*j) p.1.1 x.berth.marks.length 1∧w.cell? ⟨g,j*10+9,none⟩=some (.slice p.2.1 x.counts.length p.2.2)∧SubW w g base w.heap.size tag (2*j+1) p.2.1 x.counts.length 4:=by
   intro j
   cases e:l[j]? with
   | none=>exact ⟨((none,0),(none,0)),fun x hx=>by cases hx⟩
   | some y =>
    obtain ⟨hl,q1,q2⟩:=h2 j y e;obtain ⟨s,t,hS⟩:∃ s t,S j=[s,t]:=by
     match hh:S j,hl with
     | [s,t],_=>exact ⟨s,t,rfl⟩
    rw [hS] at q1 q2;have hlt:=Ad e;obtain ⟨k0,b0⟩:=q2 0 s _ rfl rfl;replace k0:w.ownsRow base 9 1 s y.berth.marks.length (Bg y.berth.marks):=k0;obtain ⟨a0,d0,rfl⟩:=Ua k0;have f0:w.cell? ⟨g,j*10+2,none⟩=some (.slice a0 y.berth.marks.length d0):=(h1.cellAt (j*10+2) (by omega)).trans (q1 2 _ rfl);obtain ⟨k1,b1⟩:=q2 1 t _ rfl rfl;replace k1:w.ownsRow base 125 4 t y.counts.length (Am y.counts):=k1;obtain ⟨a1,d1,rfl⟩:=Ua k1;have f1:w.cell? ⟨g,j*10+9,none⟩=some (.slice a1 y.counts.length d1):=(h1.cellAt (j*10+9) (by omega)).trans (q1 9 _ rfl);refine ⟨((a0,d0),(a1,d1)),fun x hx=>?_⟩;cases hx
    exact ⟨f0,SubW.of k0 b0,f1,SubW.of k1 b1⟩
  obtain ⟨F,hF⟩:=Classical.axiomOfChoice key;have nse:∀ (j:Nat) (x:Rwp),l[j]?=some x→((l[j]?).elim 0 (fun x=>x.berth.marks.length))=x.berth.marks.length∧((l[j]?).elim 0 (fun x=>x.counts.length))=x.counts.length:=fun j x hx=>by rw [hx];exact ⟨rfl,rfl⟩
  have hA:AnRwp w g l.length base w.heap.size tag (fun j=>(F j).1.1) (fun j=>(l[j]?).elim 0 (fun x=>x.berth.marks.length)) (fun j=>(F j).1.2) (fun j=>(F j).2.1) (fun j=>(l[j]?).elim 0 (fun x=>x.counts.length)) (fun j=>(F j).2.2):=by
   refine ⟨hg2,hg1,hg2,fun p hp=>⟨cs[p]'(by rw [h1.1];exact hp),(h1.cellAt p hp).trans (List.getElem?_eq_getElem (by rw [h1.1];exact hp))⟩,fun p=>h1.frozenAt p,fun j hj=>?_,fun j hj=>?_,fun j hj=>?_,fun j hj=>?_⟩
   ·obtain ⟨x,hx⟩:=el j hj
    have h8:=nse j x hx;simp only [h8.1];exact (hF j x hx).1
   ·obtain ⟨x,hx⟩:=el j hj
    have h8:=nse j x hx;simp only [h8.1];exact (hF j x hx).2.1
   ·obtain ⟨x,hx⟩:=el j hj
    have h8:=nse j x hx;simp only [h8.2];exact (hF j x hx).2.2.1
   ·obtain ⟨x,hx⟩:=el j hj
    have h8:=nse j x hx;simp only [h8.2];exact (hF j x hx).2.2.2
  refine ⟨_,Qw hA (fun j hj=>?_) l.length nL,LA.rRwp hA hN q⟩;obtain ⟨x,hx⟩:=el j hj;have h9:=hB x (List.mem_of_getElem? hx);have h8:=nse j x hx;simp only [h8.1,h8.2];exact h9
theorem Si {Z:World} {pk:Bool} {a1:Option Addr} {m1 c1:Nat} {a2:Option Addr} {m2 c2:Nat} {a3:Option Addr} {m3 c3:Nat} {B1 B2 B3 B4 n1 n2 n3 k:Nat}
  (l1:∀ w2,KpI B2 B3 Z w2→Calls Tryz.prog 36 #[.slice a1 m1 c1,.int .i64 ((k:Nat):Int)] w2 fun e w3=>e=.returned (.int .i64 ((k+n1:Nat):Int))∧Below w2.heap.size w2 w3)
  (l2:∀ w2,KpI B3 B4 Z w2→Calls Tryz.prog 37 #[.slice a2 m2 c2,.int .i64 ((k+n1:Nat):Int)] w2 fun e w3=>e=.returned (.int .i64 ((k+n1+n2:Nat):Int))∧Below w2.heap.size w2 w3)
  (l3:∀ w2,KpI B1 B2 Z w2→Calls Tryz.prog 38 #[.slice a3 m3 c3,.int .i64 ((k+n1+n2:Nat):Int)] w2 fun e w3=>e=.returned (.int .i64 ((k+n1+n2+n3:Nat):Int))∧Below w2.heap.size w2 w3)
  (h12:B1≤B2) (h23:B2≤B3) (h34:B3≤B4) (w:World) (hk:KpI B1 B4 Z w) :
  Calls Tryz.prog 12 #[.agg #[.bool pk,.slice a1 m1 c1,.slice a2 m2 c2,.slice a3 m3 c3],.int .i64 (k:Int)] w fun e w3=>e=.returned (.int .i64 ((k+n1+n2+n3:Nat):Int))∧Below w.heap.size w w3:=by
 have L1:=iH l1;have L2:=iH l2;have L3:=iH l3;clear l1 l2 l3;have hB1:Below w.heap.size w (w.alloc (Obj.cells #[.bool pk,.slice a1 m1 c1,.slice a2 m2 c2,.slice a3 m3 c3] 32)):=(Below.refl _ _).alloc nL _;have HX1:Hid (Blk w.heap.size #[.bool pk,.slice a1 m1 c1,.slice a2 m2 c2,.slice a3 m3 c3] 32 (w.alloc (Obj.cells #[.bool pk,.slice a1 m1 c1,.slice a2 m2 c2,.slice a3 m3 c3] 32))):=Blk.alloc _ _ _;have HK:Hid (KpI B2 B3 Z w∧KpI B3 B4 Z w∧KpI B1 B2 Z w):=⟨⟨hk.1,fun x h1 h2 h3=>hk.2 x (by omega) (by omega) h3⟩,⟨hk.1,fun x h1 h2 h3=>hk.2 x (by omega) (by omega) h3⟩,⟨hk.1,fun x h1 h2 h3=>hk.2 x (by omega) (by omega) h3⟩⟩;clear hk;go_enter Tryz.func12,Tryz.ntmps12;go_upto_region 1 with fail;generalize (w.alloc (Obj.cells #[.bool pk,.slice a1 m1 c1,.slice a2 m2 c2,.slice a3 m3 c3] 32))=w1 at *;have k1:w1.cell? ⟨w.heap.size,1,none⟩=some (.slice a1 m1 c1):=HX1.out.cell rfl;go_wp2_with fail;refine (L1.out w1 (HK.out.1.trans (KpI.below hB1))).mono ?_;rintro e w2 ⟨rfl,hb⟩;have HX2:=iH (HX1.out.below hb HX1.out.lt);have hB2:=hB1.trans (hb.mono hB1.size);clear k1 hb HX1 hB1;obtain ⟨T1,hT1⟩:∃ T:Nat,T=k+n1:=⟨_,rfl⟩;rw [← hT1] at L2 L3 ⊢;have HT1:=iH hT1;clear hT1;have k2:w2.cell? ⟨w.heap.size,2,none⟩=some (.slice a2 m2 c2):=HX2.out.cell rfl;go_wp2_with fail;refine (L2.out w2 (HK.out.2.1.trans (KpI.below hB2))).mono ?_;rintro e w3 ⟨rfl,hb⟩;have HX3:=iH (HX2.out.below hb HX2.out.lt);have hB3:=hB2.trans (hb.mono hB2.size);clear k2 hb HX2 hB2;obtain ⟨T2,hT2⟩:∃ T:Nat,T=T1+n2:=⟨_,rfl⟩;rw [← hT2] at L3 ⊢;have HT2:=iH hT2;clear hT2;have k3:w3.cell? ⟨w.heap.size,3,none⟩=some (.slice a3 m3 c3):=HX3.out.cell rfl;go_wp2_with fail;refine (L3.out w3 (HK.out.2.2.trans (KpI.below hB3))).mono ?_;rintro e w4 ⟨rfl,hb⟩;have HX4:=iH (HX3.out.below hb HX3.out.lt);have hB4:=hB3.trans (hb.mono hB3.size);clear k3 hb HX3 hB3;obtain ⟨T3,hT3⟩:∃ T:Nat,T=T2+n3:=⟨_,rfl⟩;rw [← hT3];have HT3:=iH hT3;clear hT3;clear HX4;go_wp2_with fail;go_ret;exact ⟨by rw [show k+n1+n2+n3=T3 by have e1:=HT1.out;have e2:=HT2.out;have e3:=HT3.out;omega];rfl,hB4⟩
theorem LA.idx {W:World} {pk:Bool} {v1 v2 v3:Value} {B1 B2 B3 B4 n1 n2 n3:Nat} (s1:∃ a n c,v1=.slice a n c) (s2:∃ a n c,v2=.slice a n c) (s3:∃ a n c,v3=.slice a n c)
  (l1:LA 33 36 v1 W B2 B3 n1) (l2:LA 34 37 v2 W B3 B4 n2) (l3:LA 35 38 v3 W B1 B2 n3) (h12:B1≤B2) (h23:B2≤B3) (h34:B3≤B4) (hW:B4≤W.heap.size) :
  LA 11 12 (.agg #[.bool pk,v1,v2,v3]) W B1 B4 (n1+n2+n3):=by
 obtain ⟨a1,m1,c1,rfl⟩:=s1;obtain ⟨a2,m2,c2,rfl⟩:=s2;obtain ⟨a3,m3,c3,rfl⟩:=s3;have L1:=iH l1;have L2:=iH l2;have L3:=iH l3;clear l1 l2 l3;intro w k hk h0 h1;have hB:Below w.heap.size w (w.alloc (Obj.cells #[.bool pk,.slice a1 m1 c1,.slice a2 m2 c2,.slice a3 m3 c3] 32)):=(Below.refl _ _).alloc nL _;have HX1:Hid (Blk w.heap.size #[.bool pk,.slice a1 m1 c1,.slice a2 m2 c2,.slice a3 m3 c3] 32 (w.alloc (Obj.cells #[.bool pk,.slice a1 m1 c1,.slice a2 m2 c2,.slice a3 m3 c3] 32))):=Blk.alloc _ _ _;have hws:B4≤w.heap.size:=Nat.le_trans hW hk.1;have HK1:Hid (KpI B1 B4 W (w.alloc (Obj.cells #[.bool pk,.slice a1 m1 c1,.slice a2 m2 c2,.slice a3 m3 c3] 32))):=hk.trans (KpI.below hB);have HO1:Hid (Out B1 B4 w (w.alloc (Obj.cells #[.bool pk,.slice a1 m1 c1,.slice a2 m2 c2,.slice a3 m3 c3] 32))):=Out.of_below hB;clear hk hB;go_enter Tryz.func11,Tryz.ntmps11;go_upto_region 1 with fail;generalize (w.alloc (Obj.cells #[.bool pk,.slice a1 m1 c1,.slice a2 m2 c2,.slice a3 m3 c3] 32))=w1 at *;have hlt1:w.heap.size<w1.heap.size:=HX1.out.lt;have k1:w1.cell? ⟨w.heap.size,1,none⟩=some (.slice a1 m1 c1):=HX1.out.cell rfl;go_wp2_with fail;refine (L1.out w1 k ⟨HK1.out.1,fun x h1 h2 h3=>HK1.out.2 x (by omega) (by omega) h3⟩ h0 (by omega)).mono ?_;rintro e w2 ⟨rfl,ho,hh1⟩;have HX2:Hid (Blk w.heap.size #[.bool pk,.slice a1 m1 c1,.slice a2 m2 c2,.slice a3 m3 c3] 32 w2):=(ho.block _ HX1.out.lt (.inr (by omega))).trans HX1.out;have HH1:=iH hh1;have HO2:Hid (Out B1 B4 w w2):=HO1.out.trans (ho.wide (by omega) (by omega));have HK2:Hid (KpI B3 B4 W w2∧KpI B1 B2 W w2):=⟨KpI.trans ⟨HK1.out.1,fun x h1 h2 h3=>HK1.out.2 x (by omega) (by omega) h3⟩ (ho.kpi (.inl nL)),KpI.trans ⟨HK1.out.1,fun x h1 h2 h3=>HK1.out.2 x (by omega) (by omega) h3⟩ (ho.kpi (.inr nL))⟩;have hlt2:w.heap.size<w2.heap.size:=HX2.out.lt;clear k1 ho hh1 HX1 HO1 HK1;obtain ⟨T1,hT1⟩:∃ T:Nat,T=k+n1:=⟨_,rfl⟩;rw [← hT1];have HT1:=iH hT1;have hTb:0<T1∧T1+n2+n3≤1073741824:=by omega
 clear hT1;have k2:w2.cell? ⟨w.heap.size,2,none⟩=some (.slice a2 m2 c2):=HX2.out.cell rfl;go_wp2_with fail;refine (L2.out w2 T1 HK2.out.1 (by omega) (by omega)).mono ?_;rintro e w3 ⟨rfl,ho,hh2⟩;have HX3:Hid (Blk w.heap.size #[.bool pk,.slice a1 m1 c1,.slice a2 m2 c2,.slice a3 m3 c3] 32 w3):=(ho.block _ HX2.out.lt (.inr (by omega))).trans HX2.out;have HH2:=iH hh2;have HO3:Hid (Out B1 B4 w w3):=HO2.out.trans (ho.wide (by omega) nL);have HK3:Hid (KpI B1 B2 W w3):=HK2.out.2.trans (ho.kpi (.inr (by omega)));have HP3:Hid (KpI B2 B3 w2 w3):=ho.kpi (.inr nL);have hlt3:w.heap.size<w3.heap.size:=HX3.out.lt;clear k2 ho hh2 HX2 HK2 HO2;obtain ⟨T2,hT2⟩:∃ T:Nat,T=T1+n2:=⟨_,rfl⟩;rw [← hT2];have HT2:=iH hT2;have hTb2:0<T2∧T2+n3≤1073741824:=by omega
 clear hT2;have k3:w3.cell? ⟨w.heap.size,3,none⟩=some (.slice a3 m3 c3):=HX3.out.cell rfl;go_wp2_with fail;refine (L3.out w3 T2 HK3.out (by omega) (by omega)).mono ?_;rintro e w4 ⟨rfl,ho,hh3⟩;have HH3:=iH hh3;have HO4:Hid (Out B1 B4 w w4):=HO3.out.trans (ho.wide nL (by omega));have HP4:Hid (KpI B2 B3 w2 w4∧KpI B3 B4 w3 w4):=⟨HP3.out.trans (ho.kpi (.inl nL)),ho.kpi (.inl (by omega))⟩;clear k3 ho hh3 HX3 HO3 HP3 HK3;obtain ⟨T3,hT3⟩:∃ T:Nat,T=T2+n3:=⟨_,rfl⟩;rw [← hT3];have HT3:=iH hT3;have hTb3:T3≤1073741824:=by omega
 clear hT3;go_wp2_with fail;go_ret;have e1:=HT1.out;have e2:=HT2.out;have e3:=HT3.out;have eT:k+(n1+n2+n3)=k+n1+n2+n3:=by omega
 refine ⟨by rw [show k+(n1+n2+n3)=T3 by omega];rfl,HO4.out,fun wz hkz=>?_⟩;rw [eT];refine Si (Z:=w4) (fun w5 h5=>HH1.out w5 (HP4.out.1.trans h5)) (fun w5 h5=>?_) (fun w5 h5=>?_) h12 h23 h34 wz hkz
 ·have h:=HH2.out w5 (HP4.out.2.trans h5)
  rw [e1] at h;exact h
 ·have h:=HH3.out w5 h5
  rw [e2,e1] at h;exact h
end Go.Proofs.YtpeajnkkdioflaaGreat
