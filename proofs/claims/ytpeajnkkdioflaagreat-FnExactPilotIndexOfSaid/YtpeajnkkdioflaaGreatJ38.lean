import Derived.Test.YtpeajnkkdioflaaGreatJ37
namespace Go.Proofs.YtpeajnkkdioflaaGreat
open Go.RowKit Go.WideMaps Go.Maps
def Sv (l:List Nat) (w w':World):Prop:=w.heap.size≤w'.heap.size∧∀ b,b<w.heap.size→b∉l→w'.heap[b]?=w.heap[b]?
theorem Ci (w:World) (a:Addr) (v:Value):w.grownBy (w.setCell a v) (some a.block) :=
 ⟨rfl,rfl,rfl,by simp [World.setCell],fun k _ hn=>Below.heap_setCell w a v k (fun e=>hn (by rw [e]))⟩
theorem Sv.refl (l:List Nat) (w:World):Sv l w w:=⟨Nat.le_refl _,fun _ _ _=>rfl⟩
theorem Sv.trans {l:List Nat} {a b c:World} (h:Sv l a b) (k:Sv l b c):Sv l a c:=⟨Nat.le_trans h.1 k.1,fun x h1 h2=>(k.2 x (Nat.lt_of_lt_of_le h1 h.1) h2).trans (h.2 x h1 h2)⟩
theorem Sv.below {l:List Nat} {a b c:World} (h:Sv l a b) (k:Below b.heap.size b c):Sv l a c:=h.trans ⟨k.size,fun x h1 _=>k.block x h1⟩
theorem Sv.drew {l:List Nat} {a b:World} (h:Sv l a b):Sv l a b.drew:=h
theorem Sv.grown {l:List Nat} {a b c:World} {g:Nat} (h:Sv l a b) (k:b.grownBy c (some g)) (hg:g∈l):Sv l a c:=h.trans ⟨k.size,fun x h1 h2=>k.block x h1 (fun e=>h2 (by rw [Option.some.inj e];exact hg))⟩
theorem Sv.set {l:List Nat} {a b:World} {g:Nat} (h:Sv l a b) (hg:g∈l) (o:Nat) (v:Value):Sv l a (b.setCell ⟨g,o,none⟩ v):=h.grown (Ci b ⟨g,o,none⟩ v) hg
theorem MapV.sv {l:List Nat} {w w':World} {z:Value} {b n:Nat} {f:ByteArray→Option Value} (h:MapV w z b n f) (k:Sv l w w') (hb:b∉l):MapV w' z b n f:=h.heap (k.2 b h.lt hb)
theorem Blk.sv {l:List Nat} {g:Nat} {cs:Array Value} {t:TypeId} {w w':World} (h:Blk g cs t w) (k:Sv l w w') (hb:g∉l):Blk g cs t w':=(k.2 g h.lt hb).trans h
theorem MapV.grown {w w':World} {z:Value} {b n g:Nat} {f:ByteArray→Option Value} (h:MapV w z b n f) (k:w.grownBy w' (some g)) (hb:b≠g):MapV w' z b n f:=h.heap (k.block b h.lt (fun e=>hb (Option.some.inj e)))
theorem Qx {x:Flt} (ha:AscN (brN x)) {i:Nat} {b:Brt} (hb:x.berths[i]?=some b):Ba (brN x) b.name x.berths.length=some i:=by
 cases e:Ba (brN x) b.name x.berths.length with
 | none=>exact absurd (Fv (f:=(·.name)) hb) ((Cv _ _ _).1 e i (Ad hb))
 | some k =>
  obtain ⟨_,h2⟩:=Dz e;rw [ha.inj h2 (Fv (f:=(·.name)) hb)]
abbrev Tg:=Nat ⊕ (Nat ⊕ (Nat ⊕ ByteArray))
structure Lg where
 p:Nat
 ml:Nat
 mz:Nat
 mt:Nat
 L:Nat→Nat
 T:Nat→Nat
 Z:ByteArray→Nat
 tag:Nat→Tg
structure Lg.Ok (G:Lg) (x:Flt) (k B:Nat):Prop where
 tp:G.tag G.p=(.inl 0)∧B≤G.p
 tml:G.tag G.ml=(.inl 1)∧B≤G.ml
 tmz:G.tag G.mz=(.inl 2)∧B≤G.mz
 tmt:G.tag G.mt=(.inl 3)∧B≤G.mt
 tL:∀ i,i<k→G.tag (G.L i)=(.inr (.inl i))∧B≤G.L i
 tT:∀ i,i<k→G.tag (G.T i)=(.inr (.inr (.inl i)))∧B≤G.T i
 tZ:∀ z,z∈Ah x.berths k→G.tag (G.Z z)=(.inr (.inr (.inr z)))∧B≤G.Z z
def lnV (b:Brt) (am:Option Addr) (cm:Nat) (U:Int×Int×Int) (t:Nat):Array Value:=#[.string b.name,.string b.zone,.slice am b.marks.length cm,.int .i64 b.room,.int .i64 b.hold,.bool b.closed,.int .i64 (b.room - U.2.1),.int .i64 (b.hold - U.2.2),.int .i64 U.1,.slice none 0 0,.map (some t)]
def Tal (w:World) (kb b:Nat) (xs:List Cnt):Prop:=∃ n,n≤kb∧MapV w (vCn Dm) b n (fCn xs)
theorem Tal.heap {w w':World} {kb b:Nat} {xs:List Cnt} (h:Tal w kb b xs) (e:∀ g,g=b→g<w.heap.size→w'.heap[g]?=w.heap[g]?):Tal w' kb b xs:=by
 obtain ⟨n,h1,h2⟩:=h;exact ⟨n,h1,h2.heap (e b rfl h2.lt)⟩
theorem Tal.more {w:World} {kb kb' b:Nat} {xs:List Cnt} (h:Tal w kb b xs) (hk:kb≤kb'):Tal w kb' b xs:=by
 obtain ⟨n,h1,h2⟩:=h;exact ⟨n,Nat.le_trans h1 hk,h2⟩
theorem Tal.lt {w:World} {kb b:Nat} {xs:List Cnt} (h:Tal w kb b xs):b<w.heap.size:=by
 obtain ⟨n,_,h2⟩:=h;exact h2.lt
structure LgI (x:Flt) (lo:Nat) (W0:World) (G:Lg) (kb k c:Nat) (w:World):Prop where
 ok:G.Ok x k W0.heap.size
 P:Blk G.p #[.bool x.pack,.map (some G.ml),.map (some G.mz),.map (some G.mt)] 108 w
 ML:∃ n f,n≤kb∧MapV w (.pointer none) G.ml n f∧(∀ (i:Nat) (b:Brt),i<k→x.berths[i]?=some b→f b.name=some (.pointer (some ⟨G.L i,0,none⟩)))∧∀ s,(f s).isSome=true→∃ (i:Nat) (b:Brt),i<k∧x.berths[i]?=some b∧b.name=s
 MZ:∃ n f,n≤kb∧MapV w (.map none) G.mz n f∧(∀ z,z∈Ah x.berths k→f z=some (.map (some (G.Z z))))∧∀ s,(f s).isSome=true→s∈Ah x.berths k
 MT:Tal w kb G.mt (Al stP x.copies c)
 LN:∀ (i:Nat) (b:Brt),i<k→x.berths[i]?=some b→∃ (am:Option Addr) (cm:Nat),Blk (G.L i) (lnV b am cm (Aq x.copies b.name (-1) c) (G.T i)) 111 w∧SliceC StrC 1 lo W0 am b.marks
 TL:∀ (i:Nat) (b:Brt),i<k→x.berths[i]?=some b→Tal w kb (G.T i) (Al (onB b.name) x.copies c)
 TZ:∀ z,z∈Ah x.berths k→Tal w kb (G.Z z) (Al (inZ x z) x.copies c)
 hB:Below W0.heap.size W0 w
theorem LgI.keep {x:Flt} {lo:Nat} {W0:World} {G:Lg} {kb k c:Nat} {w w':World} (h:LgI x lo W0 G kb k c w) (hb:Below W0.heap.size W0 w') (e:∀ b,W0.heap.size≤b→b<w.heap.size→w'.heap[b]?=w.heap[b]?):LgI x lo W0 G kb k c w':=by
 obtain ⟨n1,f1,a1,a2,a3,a4⟩:=h.ML;obtain ⟨n2,f2,b1,b2,b3,b4⟩:=h.MZ;have o:=h.ok;refine ⟨o,(e _ o.tp.2 h.P.lt).trans h.P,⟨n1,f1,a1,a2.heap (e _ o.tml.2 a2.lt),a3,a4⟩,⟨n2,f2,b1,b2.heap (e _ o.tmz.2 b2.lt),b3,b4⟩,h.MT.heap (fun g eg hg=>e g (eg▸o.tmt.2) hg),fun i b hi hb=>?_,fun i b hi hb=>(h.TL i b hi hb).heap (fun g eg hg=>e g (eg▸(o.tT i hi).2) hg),fun z hz=>(h.TZ z hz).heap (fun g eg hg=>e g (eg▸(o.tZ z hz).2) hg),hb⟩;obtain ⟨am,cm,h1,h2⟩:=h.LN i b hi hb;exact ⟨am,cm,(e _ (o.tL i hi).2 h1.lt).trans h1,h2⟩
theorem LgI.below {x:Flt} {lo:Nat} {W0:World} {G:Lg} {kb k c:Nat} {w w':World} (h:LgI x lo W0 G kb k c w) (hb:Below w.heap.size w w'):LgI x lo W0 G kb k c w' :=
 h.keep (h.hB.trans (hb.mono h.hB.size)) (fun b _ hl=>hb.block b hl)
theorem LgI.drew {x:Flt} {lo:Nat} {W0:World} {G:Lg} {kb k c:Nat} {w:World} (h:LgI x lo W0 G kb k c w):LgI x lo W0 G kb k c w.drew:=h.keep h.hB.drew (fun _ _ _=>rfl)
theorem LgI.more {x:Flt} {lo:Nat} {W0:World} {G:Lg} {kb kb' k c:Nat} {w:World} (h:LgI x lo W0 G kb k c w) (hk:kb≤kb'):LgI x lo W0 G kb' k c w:=by
 obtain ⟨n1,f1,a1,a2⟩:=h.ML;obtain ⟨n2,f2,b1,b2⟩:=h.MZ;exact ⟨h.ok,h.P,⟨n1,f1,Nat.le_trans a1 hk,a2⟩,⟨n2,f2,Nat.le_trans b1 hk,b2⟩,h.MT.more hk,h.LN,fun i b hi hb=>(h.TL i b hi hb).more hk,fun z hz=>(h.TZ z hz).more hk,h.hB⟩
theorem LgI.pass {x:Flt} {lo:Nat} {W0:World} {G:Lg} {kb k c:Nat} {w:World} (h:LgI x lo W0 G kb k c w) (hv:VOk x) {y:Cpy} (hy:x.copies[c]?=some y) (ha:y.at_=⟨#[]⟩):LgI x lo W0 G kb k (c+1) w:=by
 have hs:stP y=false:=by simp [stP,ha]
 have hn:∀ (i:Nat) (b:Brt),x.berths[i]?=some b→¬ y.at_=b.name:=fun i b hb e=>by
  have h1:=(hv.bn i b hb).1.1;rw [← e,ha] at h1;exact absurd h1 (by decide)
 refine ⟨h.ok,h.P,h.ML,h.MZ,?_,fun i b hi hb=>?_,fun i b hi hb=>?_,fun z hz=>?_,h.hB⟩
 ·rw [Er hy hs];exact h.MT
 ·rw [He hy (fun e=>hn i b hb e.1)];exact h.LN i b hi hb
 ·rw [Er hy (by simp [onB,hn i b hb])];exact h.TL i b hi hb
 ·rw [Er hy (by simp [inZ,hs])];exact h.TZ z hz
theorem LgI.enter {x:Flt} {lo:Nat} {W0:World} {G:Lg} {kb c i:Nat} {w w':World} {y:Cpy} {b:Brt} (h:LgI x lo W0 G kb x.berths.length c w) (hv:VOk x) (hy:x.copies[c]?=some y) (hb:x.berths[i]?=some b) (ha:b.name=y.at_)
  {am:Option Addr} {cm:Nat} (hL:Blk (G.L i) (lnV b am cm ((Aq x.copies b.name (-1) c).1+1,(Aq x.copies b.name (-1) c).2.1+y.room,(Aq x.copies b.name (-1) c).2.2+y.hold) (G.T i)) 111 w') (hsl:SliceC StrC 1 lo W0 am b.marks)
  (hT:Tal w' (kb+1) (G.T i) (Bh (Al (onB b.name) x.copies c) y)) (hZ:Tal w' (kb+1) (G.Z b.zone) (Bh (Al (inZ x b.zone) x.copies c) y)) (hM:Tal w' (kb+1) G.mt (Bh (Al stP x.copies c) y))
  (hS:Sv [G.L i,G.T i,G.Z b.zone,G.mt] w w') (hB:Below W0.heap.size W0 w'):LgI x lo W0 G (kb+1) x.berths.length (c+1) w':=by
 have hi:i<x.berths.length:=Ad hb;have hc:c<60:=Nat.lt_of_lt_of_le (Ad hy) hv.nc;have hz:b.zone∈Ah x.berths x.berths.length:=(Hi _).2 ⟨i,b,hi,hb,rfl⟩;have o:=h.ok;have hne:¬ y.at_=⟨#[]⟩:=fun e=>by
  have h1:=(hv.bn i b hb).1.1;rw [ha,e] at h1;exact absurd h1 (by decide)
 have hs:stP y=true:=by simp [stP,hne]
 have hzo:Gz x.berths y.at_=b.zone:=by
  obtain ⟨b2,e1,_,e3⟩:=iZ hv.asc (s:=y.at_) (k:=i) (by
   rw [← ha]
   exact Qx hv.asc hb)
  rw [hb] at e1;cases e1
  exact e3
 obtain ⟨n1,f1,a1,a2,a3,a4⟩:=h.ML;obtain ⟨n2,f2,b1,b2,b3,b4⟩:=h.MZ;have tg:∀ {u v:Nat} {s t:Tg},G.tag u=s→G.tag v=t→s≠t→u≠v:=fun h1 h2 h3 e=>h3 (by rw [← h1,← h2,e])
 have nin:∀ {u:Nat} {s:Tg},G.tag u=s→s≠(.inr (.inl i))→s≠(.inr (.inr (.inl i)))→s≠(.inr (.inr (.inr b.zone)))→s≠(.inl 3)→u∉[G.L i,G.T i,G.Z b.zone,G.mt]:=fun h1 q1 q2 q3 q4 hm=>by
  simp only [List.mem_cons,List.not_mem_nil,or_false] at hm;rcases hm with e | e | e | e
  ·exact tg h1 (o.tL i hi).1 q1 e
  ·exact tg h1 (o.tT i hi).1 q2 e
  ·exact tg h1 (o.tZ _ hz).1 q3 e
  ·exact tg h1 o.tmt.1 q4 e
 refine ⟨o,h.P.sv hS (nin o.tp.1 (by simp) (by simp) (by simp) (by simp)),⟨n1,f1,by omega,a2.sv hS (nin o.tml.1 (by simp) (by simp) (by simp) (by simp)),a3,a4⟩,⟨n2,f2,by omega,b2.sv hS (nin o.tmz.1 (by simp) (by simp) (by simp) (by simp)),b3,b4⟩,by rw [Jm hy hs];exact hM,fun j d hj hd=>?_,fun j d hj hd=>?_,fun z hzz=>?_,hB⟩
 ·by_cases e:j=i
  ·subst e
   rw [hb] at hd;cases hd
   rw [kU (fun k c h9=>hv.cn k c h9) hc hy ha.symm];exact ⟨am,cm,hL,hsl⟩
  ·have hnd:¬ y.at_=d.name:=fun e2=>e (hv.asc.inj (Fv (f:=(·.name)) hd) (show _=some d.name by rw [← e2,← ha];exact Fv (f:=(·.name)) hb))
   rw [He hy (fun e=>hnd e.1)];obtain ⟨am',cm',g1,g2⟩:=h.LN j d hj hd;exact ⟨am',cm',g1.sv hS (nin (o.tL j hj).1 (by simp;exact e) (by simp) (by simp) (by simp)),g2⟩
 ·by_cases e:j=i
  ·subst e
   rw [hb] at hd;cases hd
   rw [Jm hy (by simp [onB,ha])];exact hT
  ·have hnd:¬ y.at_=d.name:=fun e2=>e (hv.asc.inj (Fv (f:=(·.name)) hd) (show _=some d.name by rw [← e2,← ha];exact Fv (f:=(·.name)) hb))
   rw [Er hy (by simp [onB,hnd])];exact ((h.TL j d hj hd).more (Nat.le_succ _)).heap (fun g eg hg=>hS.2 g hg (eg▸nin (o.tT j hj).1 (by simp) (by simp;exact e) (by simp) (by simp)))
 ·by_cases e:z=b.zone
  ·subst e
   rw [Jm hy (by simp [inZ,hs,hzo])];exact hZ
  ·rw [Er hy (by simp [inZ,hzo,Ne.symm e])]
   exact ((h.TZ z hzz).more (Nat.le_succ _)).heap (fun g eg hg=>hS.2 g hg (eg▸nin (o.tZ z hzz).1 (by simp) (by simp) (by simp;exact e) (by simp)))
end Go.Proofs.YtpeajnkkdioflaaGreat
namespace Go.Proofs.YtpeajnkkdioflaaGreat
open Go.RowKit
structure Sb where
 ty:TypeId
 sz:Nat
 len:Nat
 cs:List Value
section
variable {α:Type} {V:α→List Value→List Value} {sub:α→List Sb} {n:Nat}
def RwK (V:α→List Value→List Value) (sub:α→List Sb) (n base:Nat) (w:World) (v:Value) (cs:List Value) (S:Nat→List Value) (tag:Nat→Nat) (l:List α):Prop :=
 ∀ j x,l[j]?=some x→(S j).length=(sub x).length∧(∀ i u,(V x (S j))[i]?=some u→cs[j*n+i]?=some u)∧∀ t s q,(S j)[t]?=some s→(sub x)[t]?=some q→w.ownsRow base q.ty q.sz s q.len q.cs∧∀ b,s.ownBlock=some b→some b≠v.ownBlock∧tag b=2*j+t
def RwG (V:α→List Value→List Value) (sub:α→List Sb) (n:Nat) (T:TypeId) (base:Nat) (w:World) (v:Value) (l:List α):Prop :=
 ∃ (cs:List Value) (S:Nat→List Value) (tag:Nat→Nat),w.ownsRow base T n v l.length cs∧RwK V sub n base w v cs S tag l
theorem RwG.nil {T:TypeId} {base:Nat} {w:World}:RwG V sub n T base w (.slice none 0 0) []:=⟨[],fun _=>[],fun _=>0,World.ownsRow_nil _ _ _ _,fun j x h=>by cases h⟩
theorem RwK.below {base:Nat} {w w':World} {v:Value} {cs:List Value} {S:Nat→List Value} {tag:Nat→Nat} {l:List α} (h:RwK V sub n base w v cs S tag l) (hb:Below w.heap.size w w'):RwK V sub n base w' v cs S tag l:=fun j x hj=>by
 obtain ⟨h1,h2,h3⟩:=h j x hj;exact ⟨h1,h2,fun t s q ht hq=>⟨Ao (h3 t s q ht hq).1 hb,(h3 t s q ht hq).2⟩⟩
theorem RwG.below {T:TypeId} {base:Nat} {w w':World} {v:Value} {l:List α} (h:RwG V sub n T base w v l) (hb:Below w.heap.size w w'):RwG V sub n T base w' v l:=by
 obtain ⟨cs,S,tag,h1,h2⟩:=h;exact ⟨cs,S,tag,Ao h1 hb,h2.below hb⟩
theorem RwG.drew {T:TypeId} {base:Nat} {w:World} {v:Value} {l:List α} (h:RwG V sub n T base w v l):RwG V sub n T base w.drew v l:=h
theorem Hb {base:Nat} {e:TypeId} {s:Nat} {v:Value} {m:Nat} {cs:List Value} {w w':World} {row:Option Nat} (h:w.ownsRow base e s v m cs) (hg:w.grownBy w' row) (hr:∀ r,row=some r→r<base):w'.ownsRow base e s v m cs:=by
 refine h.kept hg ?_
 cases e2:v.ownBlock with
 | none=>exact .inl rfl
 | some k =>
  refine .inr (fun e3=>?_);have:=(h.lt k e2).1;have:=hr k e3.symm;omega
theorem RwG.kept {T:TypeId} {base:Nat} {w w':World} {v:Value} {l:List α} {row:Option Nat} (h:RwG V sub n T base w v l) (hg:w.grownBy w' row) (hr:∀ r,row=some r→r<base):RwG V sub n T base w' v l:=by
 obtain ⟨cs,S,tag,h1,h2⟩:=h;refine ⟨cs,S,tag,Hb h1 hg hr,fun j x hj=>?_⟩;obtain ⟨q1,q2,q3⟩:=h2 j x hj;exact ⟨q1,q2,fun t s q ht hq=>⟨Hb (q3 t s q ht hq).1 hg hr,(q3 t s q ht hq).2⟩⟩
theorem RwG.mono {T:TypeId} {base base':Nat} {w:World} {v:Value} {l:List α} (h:RwG V sub n T base w v l) (hb:base'≤base):RwG V sub n T base' w v l:=by
 obtain ⟨cs,S,tag,h1,h2⟩:=h;refine ⟨cs,S,tag,Bd h1 hb,fun j x hj=>?_⟩;obtain ⟨q1,q2,q3⟩:=h2 j x hj;exact ⟨q1,q2,fun t s q ht hq=>⟨Bd (q3 t s q ht hq).1 hb,(q3 t s q ht hq).2⟩⟩
theorem RwK.snoc {T:TypeId} {base:Nat} {w0 w w':World} {v v':Value} {l:List α} {x:α} {cs ss:List Value} {S:Nat→List Value} {tag:Nat→Nat} (h1:w0.ownsRow base T n v l.length cs) (h2:RwK V sub n base w0 v cs S tag l) (hb:Below w0.heap.size w0 w) (hbase:base≤w0.heap.size)
  (hV:∀ x ss,ss.length=(sub x).length→(V x ss).length=n) (hl:ss.length=(sub x).length) (hm:(sub x).length≤2) (hs:∀ (t:Nat) (s:Value) (q:Sb),ss[t]?=some s→(sub x)[t]?=some q→w.ownsRow w0.heap.size q.ty q.sz s q.len q.cs)
  (hd:∀ (s s':Value) (b:Nat),ss[0]?=some s→ss[1]?=some s'→s.ownBlock=some b→s'.ownBlock≠some b)
  (ho:w'.ownsRow base T n v' (l.length+1) (cs++V x ss)) (hg:w.grownBy w' v.ownBlock) (hv:v'.ownBlock=v.ownBlock∨v'.ownBlock=some w.heap.size):RwG V sub n T base w' v' (l++[x]):=by
 have hcl:cs.length=l.length*n:=h1.1;have vb:∀ b,v.ownBlock=some b→b<w0.heap.size:=fun b e=>(h1.lt b e).2
 refine ⟨_,fun j=>if j=l.length then ss else S j,fun b=>if (ss[0]?.bind Value.ownBlock)=some b then 2*l.length else if (ss[1]?.bind Value.ownBlock)=some b then 2*l.length+1 else tag b,by simpa using ho,fun j y hj=>?_⟩;by_cases hlt:j<l.length
 ·rw [List.getElem?_append_left hlt] at hj
  obtain ⟨q1,q2,q3⟩:=h2 j y hj;simp only [if_neg (Nat.ne_of_lt hlt)];refine ⟨q1,fun i u hu=>?_,fun t s q ht hq=>?_⟩
  ·have hi:i<n:=by have:=Ad hu;rwa [hV y (S j) q1] at this
   have:(j+1)*n≤l.length*n:=Nat.mul_le_mul_right n (by omega);rw [Nat.add_mul] at this;rw [List.getElem?_append_left (by rw [hcl];omega)];exact q2 i u hu
  ·obtain ⟨p1,p2⟩:=q3 t s q ht hq
   refine ⟨(Ao p1 hb).kept hg ?_,fun b e=>?_⟩
   ·cases e:s.ownBlock with
    | none=>exact .inl rfl
    | some b=>exact .inr (fun e2=>(p2 b e).1 e2)
   ·have hbl:=(p1.lt b e).2
    refine ⟨?_,?_⟩
    ·rcases hv with e2 | e2
     ·rw [e2];exact (p2 b e).1
     ·rw [e2];intro e3;have:=Option.some.inj e3;have:=hb.size;omega
    ·have nn:∀ t':Nat,(ss[t']?.bind Value.ownBlock)≠some b:=fun t' e2=>by
      cases e3:ss[t']? with
      | none=>rw [e3] at e2;cases e2
      | some s' =>
       rw [e3] at e2;have ht':=Ad e3;have hq':(sub x)[t']?=some ((sub x)[t']'(by omega)):=List.getElem?_eq_getElem (by omega);have:=((hs t' s' _ e3 hq').lt b e2).1;omega
     rw [if_neg (nn 0),if_neg (nn 1)];exact (p2 b e).2
 ·have hje:j=l.length:=by have:=Ad hj;simp at this;omega
  subst hje;simp at hj;subst hj;simp only [if_true];refine ⟨hl,fun i u hu=>?_,fun t s q ht hq=>?_⟩
  ·rw [List.getElem?_append_right (by rw [hcl];omega),hcl,Nat.add_sub_cancel_left]
   exact hu
  ·have p1:=hs t s q ht hq
   have hvb:∀ b,s.ownBlock=some b→some b≠v.ownBlock:=fun b e e2=>by have:=(p1.lt b e).1;have:=vb b e2.symm;omega
   refine ⟨Bd (p1.kept hg ?_) hbase,fun b e=>⟨?_,?_⟩⟩
   ·cases e:s.ownBlock with
    | none=>exact .inl rfl
    | some b=>exact .inr (fun e2=>hvb b e e2)
   ·rcases hv with e2 | e2
    ·rw [e2];exact hvb b e
    ·rw [e2];intro e3;have:=Option.some.inj e3;have:=(p1.lt b e).2;omega
   ·have ht2:t<2:=by have:=Ad hq;omega
    rcases (by omega:t=0∨t=1) with rfl | rfl
    ·rw [if_pos (by rw [ht];exact e)]
     rfl
    ·rw [if_neg,if_pos (by rw [ht];exact e)]
     intro e2
     cases e3:ss[0]? with
     | none=>rw [e3] at e2;cases e2
     | some s' =>
      rw [e3] at e2;exact hd s' s b e3 ht e2 e
end
def vRw (r:Rwp):List Value→List Value
 | [s,t]=>[.string r.berth.name,.string r.berth.zone,s,.int .i64 r.berth.room,.int .i64 r.berth.hold,.bool r.berth.closed,.int .i64 r.room,.int .i64 r.hold,.int .i64 r.stand,t]
 | _=>[]
def kS (r:Rwp):List Sb:=[⟨9,1,r.berth.marks.length,Bg r.berth.marks⟩,⟨125,4,r.counts.length,Am r.counts⟩]
def vZn (z:Znr):List Value→List Value
 | [s]=>[.string z.name,s]
 | _=>[]
def kP (z:Znr):List Sb:=[⟨125,4,z.counts.length,Am z.counts⟩]
theorem Nl (x:Rwp) (ss:List Value) (h:ss.length=(kS x).length):(vRw x ss).length=10:=by
 match ss,h with
 | [_,_],_=>rfl
theorem Zk (x:Znr) (ss:List Value) (h:ss.length=(kP x).length):(vZn x ss).length=2:=by
 match ss,h with
 | [_],_=>rfl
abbrev OwnRw (base:Nat) (w:World) (v:Value) (l:List Rwp):Prop:=RwG vRw kS 10 92 base w v l
abbrev OwnZn (base:Nat) (w:World) (v:Value) (l:List Znr):Prop:=RwG vZn kP 2 95 base w v l
def RwpC:Ed Rwp:=fun lo w f x=>∃ (a2:Option Addr) (c2:Nat) (a9:Option Addr) (c9:Nat),f 0=some (.string x.berth.name)∧f 1=some (.string x.berth.zone)∧f 2=some (.slice a2 x.berth.marks.length c2)∧f 3=some (.int .i64 x.berth.room)∧f 4=some (.int .i64 x.berth.hold)∧f 5=some (.bool x.berth.closed)∧f 6=some (.int .i64 x.room)∧f 7=some (.int .i64 x.hold)∧f 8=some (.int .i64 x.stand)∧f 9=some (.slice a9 x.counts.length c9)∧x.berth.name.size≤maxLen∧x.berth.zone.size≤maxLen∧SliceC StrC 1 lo w a2 x.berth.marks∧SliceC CntC 4 lo w a9 x.counts
theorem RwpC.holds:Ep RwpC 10:=by
 rintro lo lo' w w' f g x h k hl ⟨a2,c2,a9,c9,q0,q1,q2,q3,q4,q5,q6,q7,q8,q9,z0,z1,n2,n9⟩;exact ⟨a2,c2,a9,c9,(h 0 (by omega)).trans q0,(h 1 (by omega)).trans q1,(h 2 (by omega)).trans q2,(h 3 (by omega)).trans q3,(h 4 (by omega)).trans q4,(h 5 (by omega)).trans q5,(h 6 (by omega)).trans q6,(h 7 (by omega)).trans q7,(h 8 (by omega)).trans q8,(h 9 (by omega)).trans q9,z0,z1,n2.keep StrC.holds k hl,n9.keep CntC.holds k hl⟩
theorem Qv {base:Nat} {e:TypeId} {s:Nat} {v:Value} {m:Nat} {cs:List Value} {w:World} (h:w.ownsRow base e s v m cs):∃ a q,v=.slice a m q∧∀ b o sp,a=some ⟨b,o,sp⟩→o=0∧sp=none:=by
 rcases h.2 with ⟨h1,h2⟩ | ⟨g,cap,cur,h1,_⟩
 ·exact ⟨none,0,by rw [h1,h2],fun _ _ _ e=>by cases e⟩
 ·exact ⟨_,_,h1,fun b o sp e=>by cases e;exact ⟨rfl,rfl⟩⟩
end Go.Proofs.YtpeajnkkdioflaaGreat
