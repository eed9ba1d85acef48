import Derived.Test.YtjoeojhdkoidbaaGreatJ34
import Derived.Defers
set_option maxHeartbeats 4000000
namespace Go.Proofs.YtjoeojhdkoidbaaGreat
open Tryz
set_option maxRecDepth 100000
open Go.RowKit Tryz
section
variable {α β:Type} {V:α→Value→List Value} {sub:α→List β} {C:Ej β} {m n f:Nat}
theorem OwnA.kept {T:TypeId} {base:Nat} {w w':World} {v:Value} {l:List α} {row:Option Nat} (hC:FlatC C m) (h:OwnA V sub C m n f T base w v l) (hg:w.grownBy w' row) (hr:∀ r,row=some r→r<base):OwnA V sub C m n f T base w' v l:=by
 obtain ⟨cs,h1,h2,h3⟩:=h;have hv:v.ownBlock=none∨v.ownBlock≠row:=by
  cases e:v.ownBlock with
  | none=>exact .inl rfl
  | some k =>
   refine .inr (fun e2=>?_);have:=(h1.lt k e).1;have:=hr k e2.symm;omega
 refine ⟨cs,h1.kept hg hv,fun j x hj=>?_,h3⟩;obtain ⟨ae,ce,q1,q2,q3⟩:=h2 j x hj;refine ⟨ae,ce,q1,Bj hC q2 hg (fun b o e hn e2=>?_),fun b o e hn=>⟨(q3 b o e hn).1,lL (q3 b o e hn).2 hg.size⟩⟩;have hb:=hr b e2.symm;rcases q2.2 with h9 | ⟨b',o',e',⟨hlo,_⟩,_⟩
 ·exact hn h9
 ·rw [e] at e'
  cases e'
  omega
def KpB (lo:Nat) (a b:World):Prop:=a.heap.size≤b.heap.size∧∀ x,lo≤x→x<a.heap.size→b.heap[x]?=a.heap[x]?
theorem KpB.below {lo:Nat} {a b:World} (h:Below a.heap.size a b):KpB lo a b:=⟨h.size,fun x _ h3=>h.block x h3⟩
theorem KpB.trans {lo:Nat} {a b c:World} (h:KpB lo a b) (k:KpB lo b c):KpB lo a c:=⟨lT h.1 k.1,fun x h1 h3=>(k.2 x h1 (lL h3 h.1)).trans (h.2 x h1 h3)⟩
def OwnT (V:α→Value→List Value) (sub:α→List β) (C:Ej β) (m n f:Nat) (T:TypeId) (base top:Nat) (w:World) (v:Value) (l:List α):Prop:=∃ W,OwnA V sub C m n f T base W v l∧W.heap.size≤top∧KpB base W w
end
theorem KpB.sets {lo b:Nat} {a c:World} (h:KpB lo a c) (hb:b<lo) (vs:List Value) (o:Nat):KpB lo a (c.setCells b o vs):=h.trans ⟨(Cb vs o c).size,fun x h1 h3=>(Cb vs o c).block x h3 (fun e=>by cases e;omega)⟩
def NwRes (x:Flt) (w:World) (e:Ending) (w':World):Prop:=∃ (g1:OA) (q1:Nat) (g2:OA) (q2:Nat) (g3:OA) (q3 B1 B2 B3:Nat),e=.returned (.agg (ffA x g1 q1 g2 q2 g3 q3))∧0<B1∧w.heap.size≤B1∧B1≤B2∧B2≤B3∧B3≤w'.heap.size
 ∧ OwnT vBr Brt.marks StrC 1 6 2 60 B1 B2 w' (.slice g1 x.berths.length q1) x.berths∧nS B1 w' (.slice g1 x.berths.length q1) x.berths
 ∧ w'.ownsRow B2 103 2 (.slice g2 x.services.length q2) x.services.length (Dq x.services)∧(∀ b,(Value.slice g2 x.services.length q2).ownBlock=some b→b<B3)
 ∧ Oj B3 w' (.slice g3 x.copies.length q3) x.copies∧Below w.heap.size w w'
theorem Ye (x:Flt) (a1:OA) (c1:Nat) (a2:OA) (c2:Nat) (a3:OA) (c3 lo:Nat) (w:World) (n1:SliceC BrtC 6 lo w a1 x.berths) (n2:SliceC SvcC 2 lo w a2 x.services) (n3:SliceC CpyC 12 lo w a3 x.copies) (hls:x.services.length≤1048576) (hlb:x.berths.length≤1048576) (hlc:x.copies.length≤1048576) (hsb:SmB x.berths) (hss:Uf x.services 1048576) (hsc:SmC x.copies) :
  Calls prog 32 #[.agg (ffA x a1 c1 a2 c2 a3 c3)] w fun e w'=>NwRes x w e w':=by
 have HN1:=iH n1;have HN2:=iH n2;have HN3:=iH n3;have HSB:=iH hsb;have HSS:=iH hss;have HSC:=iH hsc;clear n1 n2 n3 hsb hss hsc;have hB3:=bl2 w (ffA x a1 c1 a2 c2 a3 c3) 36 FfA 36;have h1:=Blk.alloc w (ffA x a1 c1 a2 c2 a3 c3) 36;have HX:=iH (h1.below ((Below.refl _ _).alloc nL (Obj.cells FfA 36)) h1.lt);have HZ:=al2 w (ffA x a1 c1 a2 c2 a3 c3) 36 FfA 36;clear h1;go_enter func32,ntmps32;go_upto_region 1 with fail;generalize ((w.alloc (Obj.cells (ffA x a1 c1 a2 c2 a3 c3) 36)).alloc (Obj.cells FfA 36))=w3 at *;refine wp_region_held_drew (S:=fun wy=>Blk w.heap.size (ffA x a1 c1 a2 c2 a3 c3) 36 wy) (by kernel_rfl) HX.out.drew (fun hS=>?_);have hB4:=hB3.drew;have HZ4:=iH HZ.out.drew;have hl4:w.heap.size+1<w3.drew.heap.size:=HZ4.out.lt;clear HX HZ hB3;generalize w3.drew=w4 at *;refine tz 0 3 (.pointer (some ⟨w.heap.size,0,none⟩)) rfl hS ?_;simp only [pX];refine ty 1 ⟨some 4,_,_,_,_,none⟩ (.bool x.pack) rfl (by rfl) ?_ hS ?_
 ·intro wy hy
  have h0:=Blk.cell hy (o:=0) rfl;clear hy;go_simp
 simp only [pX];refine tz 2 5 (.pointer (some ⟨w.heap.size,1,none⟩)) rfl hS ?_;simp only [pX];refine ty 3 ⟨some 6,_,_,_,_,none⟩ (.slice a1 x.berths.length c1) rfl (by rfl) ?_ hS ?_
 ·intro wy hy
  have h0:=Blk.cell hy (o:=1) rfl;clear hy;go_simp
 simp only [pX];refine tz 5 8 (.pointer (some ⟨w.heap.size,2,none⟩)) rfl hS ?_;simp only [pX];refine ty 6 ⟨some 9,_,_,_,_,none⟩ (.slice a2 x.services.length c2) rfl (by rfl) ?_ hS ?_
 ·intro wy hy
  have h0:=Blk.cell hy (o:=2) rfl;clear hy;go_simp
 simp only [pX];refine tz 8 11 (.pointer (some ⟨w.heap.size,3,none⟩)) rfl hS ?_;simp only [pX];refine ty 9 ⟨some 12,_,_,_,_,none⟩ (.slice a3 x.copies.length c3) rfl (by rfl) ?_ hS ?_
 ·intro wy hy
  have h0:=Blk.cell hy (o:=3) rfl;clear hy;go_simp
 simp only [pX];refine rd1 4 ⟨some 7,_,_,_,_,none⟩ rfl (fun K hK=>?_);go_simp;refine (aL x.berths a1 c1 lo _ (HN1.out.below BrtC.holds hB4 nL) hlb HSB).mono ?_;rintro e w5 ⟨g1,q1,rfl,hO1,hb⟩;have HO1:=iH hO1;have hB5:=qTr hB4 hb;have HZ5:=qBk HZ4 hb;have hs5:w4.heap.size≤w5.heap.size:=hb.size;clear hO1 HZ4;refine hK.out _ _ (Blk.below hS hb (Blk.lt hS)) (fun hS=>?_);clear hK K hb;refine rd1 7 ⟨some 10,_,_,_,_,none⟩ rfl (fun K hK=>?_);go_simp;refine (bJ x.services a2 c2 lo _ (HN2.out.below SvcC.holds hB5 nL) hls HSS).mono ?_;rintro e w6 ⟨g2,q2,rfl,hO2,hb⟩;have HO2:=iH hO2;have HK6:Hid (KpB w4.heap.size w5 w6):=KpB.below hb;have HO16:=iH (HO1.out.below StrC.holds hb);have hB6:=qTr hB5 hb;have HZ6:=qBk HZ5 hb;have hs6:w5.heap.size≤w6.heap.size:=hb.size;clear hO2 HZ5;refine hK.out _ _ (Blk.below hS hb (Blk.lt hS)) (fun hS=>?_);clear hK K hb;refine rd1 10 ⟨some 13,_,_,_,_,none⟩ rfl (fun K hK=>?_);go_simp;refine (dI x.copies a3 c3 lo _ (HN3.out.below CpyC.holds hB6 nL) hlc HSC).mono ?_;rintro e w7 ⟨g3,q3,rfl,hO3,hb⟩;have HO3:=iH hO3;have HK7:Hid (KpB w4.heap.size w5 w7):=HK6.out.trans (KpB.below hb);have HO17:=iH (HO16.out.below StrC.holds hb);have HO27:=iH (Ap HO2 hb);have HL2:Hid (∀ b,(Value.slice g2 x.services.length q2).ownBlock=some b→b<w6.heap.size):=fun b e=>(HO2.out.lt b e).2
 have hB7:=qTr hB6 hb;have HZ7:=qBk HZ6 hb;have hs7:w6.heap.size≤w7.heap.size:=hb.size;clear hO3 HZ6 HO16 HK6;refine hK.out _ _ (Blk.below hS hb (Blk.lt hS)) (fun hS=>?_);clear hK K hb;refine tz 11 14 (.agg (ffA x g1 q1 g2 q2 g3 q3)) rfl hS ?_;simp only [pX];refine rd1 12 ⟨none,_,_,_,_,none⟩ rfl (fun K hK=>?_);rw [if_pos (by rfl)];refine wp_store_mid 36 (.tmp 2) (.tmp 14) (by rfl) (w.heap.size+1) 0 (ffA x g1 q1 g2 q2 g3 q3) (by rfl) (by rfl) HZ7.out.there Am (by simp [Value.oneCell']) ?_;obtain ⟨wf,HE⟩:∃ wf,Hid (wf=(w7.setCells (w.heap.size+1) 0 (ffL x g1 q1 g2 q2 g3 q3))):=⟨_,rfl⟩;have hgw:w7.grownBy wf (some (w.heap.size+1)):=by rw [HE.out];exact Cb _ _ _
 have hXf:Blk w.heap.size (ffA x a1 c1 a2 c2 a3 c3) 36 wf:=Blk.grown hS hgw (by intro e;have:=Option.some.inj e;omega);have HRf:Hid (wf.rangeAt (w.heap.size+1) 0 (ffL x g1 q1 g2 q2 g3 q3)):=by
  show World.rangeAt _ _ _ _
  rw [HE.out];exact World.rangeAt_setCells_same _ _ _ _ HZ7.out.there
 have HF:Hid (NwRes x w (.returned (.agg (ffA x g1 q1 g2 q2 g3 q3))) wf):=by
  have hr:∀ (B r:Nat),w4.heap.size≤B→some (w.heap.size+1)=some r→r<B:=fun B r hB e=>by cases e;omega
  refine ⟨g1,q1,g2,q2,g3,q3,w4.heap.size,w5.heap.size,w6.heap.size,rfl,by omega,by omega,hs5,hs6,lT hs7 hgw.size,⟨w5,HO1,Nat.le_refl _,?_⟩,HO17.out.kept StrC.flat hgw (fun r e=>hr _ r nL e),HO27.out.kept hgw ?_,HL2,HO3.out.kept LikC.flat hgw (fun r e=>hr _ r (by omega) e),?_⟩
  ·rw [HE.out];exact HK7.out.sets (by omega) _ _
  ·cases e:(Value.slice g2 x.services.length q2).ownBlock with
   | none=>exact .inl rfl
   | some b =>
    refine .inr (fun e2=>?_);have h8:=(HO27.out.lt b e).1;have h9:=Option.some.inj e2;omega
  ·exact hB7.grown hgw hB7.size (fun r e=>by cases e;omega)
 rw [← HE.out];refine hK.out _ _ hXf (fun hS=>?_);clear hK K;refine td ?_;clear hS hXf;go_wp2_with fail;exact bodyPost_ret (Av rfl _ _ (w.heap.size+1) (ffL x g1 q1 g2 q2 g3 q3) _ rfl HRf underlying36 rfl Am) rfl HF
theorem uG (y:Cpy) (s:BA) (v:Value):vCp { y with at_:=s } v=(vCp y v).set 11 (.string s):=rfl
theorem pO {base G q:Nat} {w:World} {l:List Cpy} {cs:List Value} {i:Nat} {y:Cpy} (s:BA) (hl:cs.length=l.length*12) (h2:NAt vCp Cpy.likes LikC 2 12 base (.slice (some ⟨G,0,none⟩) l.length q) w cs l) (hi:l[i]?=some y) :
  NAt vCp Cpy.likes LikC 2 12 base (.slice (some ⟨G,0,none⟩) l.length q) (w.setCell ⟨G,i*12+11,none⟩ (.string s)) (cs.set (i*12+11) (.string s)) (l.set i { y with at_:=s }):=by
 have hil:=Ah hi;have hg:=Cp w ⟨G,i*12+11,none⟩ (.string s);intro j x hj;by_cases e:j=i
 ·subst e
  rw [List.getElem?_set_self hil] at hj;cases hj
  obtain ⟨ae,ce,q1,q2,q3⟩:=h2 j y hi;refine ⟨ae,ce,fun t u hu=>?_,Bj LikC.flat q2 hg (fun b o e hn=>(q3 b o e hn).1),fun b o e hn=>⟨(q3 b o e hn).1,lL (q3 b o e hn).2 hg.size⟩⟩;rw [uG] at hu;have ht:t<12:=by
   have:=Ah hu
   rwa [List.length_set,Il] at this
  by_cases e:t=11
  ·subst e
   rw [List.getElem?_set_self (by rw [Il];omega)] at hu;rw [List.getElem?_set_self (by omega),← hu]
  ·rw [List.getElem?_set_ne (by omega)] at hu ⊢
   exact q1 t u hu
 ·rw [List.getElem?_set_ne (fun h=>e h.symm)] at hj
  obtain ⟨ae,ce,q1,q2,q3⟩:=h2 j x hj;refine ⟨ae,ce,fun t u hu=>?_,Bj LikC.flat q2 hg (fun b o e hn=>(q3 b o e hn).1),fun b o e hn=>⟨(q3 b o e hn).1,lL (q3 b o e hn).2 hg.size⟩⟩;have ht:t<12:=by
   have:=Ah hu
   rwa [Il] at this
  rw [List.getElem?_set_ne (by omega)];exact q1 t u hu
theorem OwnN.setAt {base G q:Nat} {w:World} {l:List Cpy} {i:Nat} {y:Cpy} (h:Lm base w (.slice (some ⟨G,0,none⟩) l.length q) l) (hi:l[i]?=some y) (s:BA):Lm base (w.setCell ⟨G,i*12+11,none⟩ (.string s)) (.slice (some ⟨G,0,none⟩) l.length q) (l.set i { y with at_:=s }):=by
 obtain ⟨cs,h1,h2⟩:=h;refine ⟨cs.set (i*12+11) (.string s),?_,pO s h1.1 h2 hi⟩;rw [List.length_set];exact (h1.stored (i*12+11) (.string s)).1
theorem OwnA.setAt {base G q:Nat} {w:World} {l:List Cpy} {i:Nat} {y:Cpy} (h:Oj base w (.slice (some ⟨G,0,none⟩) l.length q) l) (hi:l[i]?=some y) (s:BA):Oj base (w.setCell ⟨G,i*12+11,none⟩ (.string s)) (.slice (some ⟨G,0,none⟩) l.length q) (l.set i { y with at_:=s }):=by
 obtain ⟨cs,h1,h2,h3⟩:=h;refine ⟨cs.set (i*12+11) (.string s),?_,pO s h1.1 h2 hi,?_⟩
 ·rw [List.length_set]
  exact (h1.stored (i*12+11) (.string s)).1
 ·rw [List.length_set]
  intro a b c d e f c' d' e' f' k1 k2 k3 k4;rw [List.getElem?_set_ne (by omega)] at k3 k4;exact h3 a b c d e f c' d' e' f' k1 k2 k3 k4
theorem OwnN.atCell {base G q:Nat} {w:World} {l:List Cpy} {i:Nat} {y:Cpy} (h:Lm base w (.slice (some ⟨G,0,none⟩) l.length q) l) (hi:l[i]?=some y):w.cell? ⟨G,i*12+11,none⟩=some (.string y.at_)∧w.frozen? ⟨G,i*12+11,none⟩=false:=by
 obtain ⟨cs,h1,h2⟩:=h;have hil:=Ah hi;obtain ⟨ae,ce,q1,_⟩:=h2 i y hi;exact ⟨(h1.cellAt _ (by omega)).trans (q1 11 _ rfl),h1.frozenAt _⟩
section
variable {α β:Type} {V:α→Value→List Value} {sub:α→List β} {C:Ej β} {m n f:Nat}
theorem KpB.keeps {lo:Nat} {a b:World} (k:KpB lo a b):Keeps lo a b:=⟨k.1,fun x o h1 h2=>⟨World.cell?_of_block (a:=⟨x,o,none⟩) (k.2 x h1 h2),World.frozen?_of_block (a:=⟨x,o,none⟩) (k.2 x h1 h2)⟩⟩
theorem Zr {w w':World} {base:Nat} {e:TypeId} {size:Nat} {v:Value} {k:Nat} {xs:List Value} (h:w.ownsRow base e size v k xs) (hk:KpB base w w'):w'.ownsRow base e size v k xs:=by
 refine ⟨h.1,?_⟩;rcases h.2 with h2 | ⟨g,cap,cur,h1,hb,hg,h3⟩
 ·exact .inl h2
 ·exact .inr ⟨g,cap,cur,h1,hb,(hk.2 g hb (Array.getElem?_eq_some_iff.1 hg).1).trans hg,h3⟩
theorem OwnA.kpb {T:TypeId} {base:Nat} {w w':World} {v:Value} {l:List α} (hC:Er C m) (h:OwnA V sub C m n f T base w v l) (k:KpB base w w'):OwnA V sub C m n f T base w' v l:=by
 obtain ⟨cs,h1,h2,h3⟩:=h;refine ⟨cs,Zr h1 k,fun j x hj=>?_,h3⟩;obtain ⟨ae,ce,q1,q2,q3⟩:=h2 j x hj;exact ⟨ae,ce,q1,q2.keep hC k.keeps nL,fun b o e hn=>⟨(q3 b o e hn).1,lL (q3 b o e hn).2 k.1⟩⟩
theorem OwnT.own {T:TypeId} {base top:Nat} {w:World} {v:Value} {l:List α} (hC:Er C m) (h:OwnT V sub C m n f T base top w v l):OwnA V sub C m n f T base w v l:=by
 obtain ⟨W,h1,_,k⟩:=h;exact h1.kpb hC k
theorem OwnT.keep {T:TypeId} {base top:Nat} {w w':World} {v:Value} {l:List α} (h:OwnT V sub C m n f T base top w v l) (hs:w.heap.size≤w'.heap.size) (hk:∀ x,base≤x→x<top→x<w.heap.size→w'.heap[x]?=w.heap[x]?):OwnT V sub C m n f T base top w' v l:=by
 obtain ⟨W,h1,h2,k⟩:=h;exact ⟨W,h1,h2,lT k.1 hs,fun x a b=>(hk x a (lL b h2) (lL b k.1)).trans (k.2 x a b)⟩
theorem OwnT.below {T:TypeId} {base top:Nat} {w w':World} {v:Value} {l:List α} (h:OwnT V sub C m n f T base top w v l) (hb:Below w.heap.size w w'):OwnT V sub C m n f T base top w' v l:=h.keep hb.size (fun x _ _ h3=>hb.block x h3)
theorem OwnT.but {T:TypeId} {base top r:Nat} {w w':World} {v:Value} {l:List α} (h:OwnT V sub C m n f T base top w v l) (hb:But r w.heap.size w w') (hr:top≤r∨r<base):OwnT V sub C m n f T base top w' v l:=h.keep hb.size (fun x h1 h2 h3=>hb.block x h3 (by omega))
end
abbrev Gi (base top:Nat) (w:World) (v:Value) (l:List Cpy):Prop:=OwnT vCp Cpy.likes LikC 2 12 7 55 base top w v l
theorem OwnT.setAt {base top G q:Nat} {w:World} {l:List Cpy} {i:Nat} {y:Cpy} (h:Gi base top w (.slice (some ⟨G,0,none⟩) l.length q) l) (hi:l[i]?=some y) (s:BA):Gi base top (w.setCell ⟨G,i*12+11,none⟩ (.string s)) (.slice (some ⟨G,0,none⟩) l.length q) (l.set i { y with at_:=s }):=by
 obtain ⟨W,h1,h2,k⟩:=h;refine ⟨W.setCell ⟨G,i*12+11,none⟩ (.string s),h1.setAt hi s,by simpa [World.setCell] using h2,by simpa [World.setCell] using k.1,fun x a b=>?_⟩;simp only [World.setCell,Array.getElem?_modify];rw [k.2 x a (by simpa [World.setCell] using b)]
theorem OwnN.nameCell {base G q:Nat} {w:World} {l:List Cpy} {i:Nat} {y:Cpy} (h:Lm base w (.slice (some ⟨G,0,none⟩) l.length q) l) (hi:l[i]?=some y):w.cell? ⟨G,i*12,none⟩=some (.string y.name):=by
 obtain ⟨cs,h1,h2⟩:=h;have hil:=Ah hi;obtain ⟨ae,ce,q1,_⟩:=h2 i y hi;exact (h1.cellAt _ (by omega)).trans (q1 0 _ rfl)
theorem alT (w:World) (A B:Array Value) (s t:TypeId):∃ w0,w0=(w.alloc (Obj.cells A s)).alloc (Obj.cells B t)∧Hid (Blk w.heap.size A s w0)∧Hid (Blk (w.heap.size+1) B t w0)∧Hid (Below w.heap.size w w0):=by
 have h9:=Blk.alloc (w.alloc (Obj.cells A s)) B t;exact ⟨_,rfl,(Blk.alloc w A s).below ((Below.refl _ _).alloc nL _) (Blk.alloc w A s).lt,(by show Blk _ _ _ _;simpa using h9),((Below.refl _ _).alloc nL _).alloc (by simp) _⟩
theorem alU (w:World) (A B C:Array Value) (s t u:TypeId):∃ w0,w0=((w.alloc (Obj.cells A s)).alloc (Obj.cells B t)).alloc (Obj.cells C u)∧Hid (Blk w.heap.size A s w0)∧Hid (Blk (w.heap.size+1) B t w0)∧Hid (Blk (w.heap.size+2) C u w0)∧Hid (Below w.heap.size w w0):=by
 obtain ⟨w1,e1,h1,h2,h3⟩:=alT w A B s t;have hb:=(Below.refl _ w1).alloc nL (Obj.cells C u);have hs:w1.heap.size=w.heap.size+2:=by rw [e1];simp
 have h9:=Blk.alloc w1 C u;rw [hs] at h9;exact ⟨_,by rw [e1],h1.out.below hb h1.out.lt,h2.out.below hb h2.out.lt,h9,qTr h3.out hb⟩
theorem sA {P:Program} {f:FuncId} {fn:Func} {c:Code} {args:Array Value} {w:World} {R:Ending→World→Prop} (hf:P.funcs[f]?=some fn) (hb:fn.body=some c) (h:c.wp P (bodyPost P fn R) { tmps:=args++Array.replicate (fn.ntmps - args.size) undef,defers:=[] } w):Calls P f args w R∧∀ u,CallsD P f args u w fun e u' w'=>u'=u∧R e w':=⟨calls_of_wp hf hb h,fun _=>callsD_of_wp hf hb h⟩
def MvR (G q B N:Nat) (l:List Cpy) (w:World) (e:Ending) (w':World):Prop:=e=.returned (.tuple #[])∧Gi B N w' (.slice (some ⟨G,0,none⟩) l.length q) l∧But G w.heap.size w w'
theorem Sd (p G q B N:Nat) (l:List Cpy) (s:BA) (pl:List Nat) (pa:OA) (pc lo:Nat) (w:World) (hp:w.cell? ⟨p,3,none⟩=some (.slice (some ⟨G,0,none⟩) l.length q)) (hpG:p≠G) (ho:Gi B N w (.slice (some ⟨G,0,none⟩) l.length q) l) (hps:SliceC IntC 1 lo w pa (plI pl)) (hpa:pl≠[]→∀ b o,pa=some ⟨b,o,none⟩→b≠G) (hin:∀ (j t:Nat),pl[j]?=some t→t<l.length) (hsm:pl.length≤1048576) :
  Calls prog 77 #[.pointer (some ⟨p,0,none⟩),.slice pa pl.length pc,.string s] w (MvR G q B N (atP pl s l) w)∧∀ u,CallsD prog 77 #[.pointer (some ⟨p,0,none⟩),.slice pa pl.length pc,.string s] u w fun e u' w'=>u'=u∧MvR G q B N (atP pl s l) w e w':=by
 have HO:Hid (Gi B N w (.slice (some ⟨G,0,none⟩) l.length q) (atP (pl.take 0) s l)):=by
  show Gi _ _ _ _ _
  rw [List.take_zero,iK];exact ho
 have HPS:=iH hps;have HP:=iH hp;have hpw:p<w.heap.size:=World.block_lt_of_cell? w _ hp;have HPA:=iH hpa;have HIN:=iH hin;clear ho hps hp hpa hin;refine sA func77 rfl ?_;simp only [ntmps77,List.size_toArray,List.length_cons,List.length_nil,Nat.reduceAdd,Nat.reduceSub,Array.replicate_succ,Array.replicate_zero,List.push_toArray,List.append_toArray,List.nil_append,List.cons_append];go_wp2_with fail;go_loopw [10] (fun i wr=>∃ k:Nat,k≤pl.length∧i=.int .i64 k∧Hid (Gi B N wr (.slice (some ⟨G,0,none⟩) l.length q) (atP (pl.take k) s l))∧Hid (But G w.heap.size w wr)) (fun i _=>pl.length - (intOf i).toNat)
 case atStart=>exact ⟨0,zL,rfl,HO,But.refl _ _ _⟩
 case round =>
  clear HO;obtain ⟨k,hk,rfl,hO,hB⟩:=hrel;by_cases hlt:k<pl.length
  ·obtain ⟨t,ht⟩:=gXe hlt
   have htl:=HIN.out k t ht;obtain ⟨c,hc⟩:∃ c,(atP (pl.take k) s l)[t]?=some c:=⟨(atP (pl.take k) s l)[t]'(by rw [Bp];exact htl),gE _⟩;obtain ⟨b',o',rfl,_,hbw,hcp⟩:=HPS.out.at (Pn ht);have t0:_=_:=hcp;simp only [Nat.mul_one,Nat.add_zero] at t0;have t1:wr.cell? ⟨b',o'+k,none⟩=some (.int .i64 (t:Int)):=(hB.out.cell (a:=⟨b',o'+k,none⟩) hbw (HPA (fun e=>by rw [e] at hlt;cases hlt) _ _ rfl)).trans t0;have t2:wr.cell? ⟨p,3,none⟩=some (.slice (some ⟨G,0,none⟩) l.length q):=(hB.out.cell (a:=⟨p,3,none⟩) hpw hpG).trans HP;have hO':=hO.out;rw [show Value.slice (some ⟨G,0,none⟩) l.length q=.slice (some ⟨G,0,none⟩) (atP (pl.take k) s l).length q by rw [Bp]] at hO';obtain ⟨kz,fz⟩:=OwnN.atCell (hO'.own LikC.holds).own hc;have HO2:Hid (Gi B N (wr.setCell ⟨G,t*12+11,none⟩ (.string s)) (.slice (some ⟨G,0,none⟩) l.length q) (atP (pl.take (k+1)) s l)):=by
    have h9:=hO'.setAt hc s;rw [bD ht hc,Bp] at h9;exact h9
   have HB2:Hid (But G w.heap.size w (wr.setCell ⟨G,t*12+11,none⟩ (.string s))):=hB.out.set _ _;clear hcp t0 hO' ht hc hO hB;go_wp2_with fail;go_roundw
   case rel=>exact ⟨k+1,by omega,by go_num,HO2,HB2⟩
   case measure=>simp [intOf];omega
  ·have hke:k=pl.length:=by omega
   subst hke;have HO3:Hid (Gi B N wr (.slice (some ⟨G,0,none⟩) (atP pl s l).length q) (atP pl s l)):=by
    have h9:=hO.out;rw [List.take_length] at h9;show Gi _ _ _ _ _
    rw [Bp];exact h9
   clear hO;go_wp2_with fail
   first | go_end0 | refine bodyPost_ret (results_none rfl _ _ _) rfl ?_
   exact ⟨rfl,HO3,hB.out⟩
theorem kN {base:Nat} {T:TypeId} {n:Nat} {vv:Value} {k:Nat} {ds:List Value} {w:World} (h:w.ownsRow base T n vv k ds):∃ d q,vv=.slice d k q:=by
 rcases h.2 with ⟨h1,h2⟩ | ⟨g,cap,cur,h1,_⟩
 ·exact ⟨none,0,by rw [h1,h2]⟩
 ·exact ⟨_,cap,h1⟩
theorem aE (p:Nat) (l:List Cpy) (a3:OA) (c3 lo:Nat) (pl:List Nat) (pa:OA) (pc lo2:Nat) (w:World) (hp:w.cell? ⟨p,3,none⟩=some (.slice a3 l.length c3)) (n3:SliceC CpyC 12 lo w a3 l) (hnm:∀ (k:Nat) c,l[k]?=some c→c.name.size≤1048576) (hps:SliceC IntC 1 lo2 w pa (plI pl)) (hin:∀ (j t:Nat),pl[j]?=some t→t<l.length) (hsm:pl.length≤1048576) :
  Calls prog 81 #[.pointer (some ⟨p,0,none⟩),.slice pa pl.length pc] w fun e w'=>(∃ d k q,e=.returned (.slice d k q))∧Below w.heap.size w w':=by
 obtain ⟨i0,hi,hz0,hz1,hz2⟩:=info_parts Gx;have HP:=iH hp;have hpw:p<w.heap.size:=World.block_lt_of_cell? w _ hp;have N3:=iH n3;have HNM:=iH hnm;have HPS:=iH hps;have HIN:=iH hin;clear hp n3 hnm hps hin;go_enter func81,ntmps81;go_wp2_with fail;go_loopw [5,10] (fun v i wr=>∃ (k:Nat) (cs:List Value),k≤pl.length∧i=.int .i64 k∧Hid (wr.ownsRow w.heap.size 9 1 v k cs)∧Hid (Below w.heap.size w wr)) (fun _ i _=>pl.length - (intOf i).toNat)
 case atStart=>exact ⟨0,[],zL,rfl,World.ownsRow_nil _ _ _ _,Below.refl _ _⟩
 case round =>
  obtain ⟨k,cs,hk,rfl,hO,hB⟩:=hrel;by_cases hlt:k<pl.length
  ·obtain ⟨t,ht⟩:=gXe hlt
   have htl:=HIN.out k t ht;obtain ⟨c,hc⟩:=gXe htl;have hcn:=HNM.out t c hc;obtain ⟨b',o',rfl,_,_,hcp⟩:=(HPS.out.below IntC.holds hB.out nL).at (Pn ht);have t0:_=_:=hcp;simp only [Nat.mul_one,Nat.add_zero] at t0;have t1:wr.cell? ⟨p,3,none⟩=some (.slice a3 l.length c3):=(hB.out.cell (p:=⟨p,3,none⟩) hpw).trans HP;obtain ⟨b,o,rfl,_,_,hcc⟩:=(N3.out.below CpyC.holds hB.out nL).at hc;obtain ⟨a7,c7,q0,q1,q2,q3,q4,q5,q6,q7,q8,q9,q10,q11,_⟩:=hcc;simp only [Nat.add_zero] at q0;clear hcp q1 q2 q3 q4 q5 q6 q7 q8 q9 q10 q11 ht hc;go_wp2_with fail;refine (Ei c.name _ hcn).mono ?_;rintro e wc ⟨rfl,hbc⟩;have HBC:=qTH hB hbc;have HOC:=iH (Ap hO.out hbc);have hsz:w.heap.size≤wc.heap.size:=HBC.out.size;clear hbc hO hB t0 t1 q0;go_wp2_with (first | (at_builtin;refine wpList_append_lies _ rfl (.tmp 14) (.tmp 25) 27 rfl w.heap.size 9 i0 _ 1 16 underlying27 hi hz0 hz1 hz2 rfl (by decide) _ k _ rfl (Ap HOC ((Below.refl _ _).alloc nL _)) ⟨wc.heap.size,0,none⟩ 1 1 [.string c.name] rfl rfl (vJ (by simp)) (by intro u hu;rw [List.mem_singleton.1 hu];rfl) (by omega) (by unfold maxLen;omega) (by omega) (by simp;omega) _ rfl ?_;intro g2 cap2 w2 hown hgrow hto hgl));go_roundw
   case rel =>
    have hB1:Below w.heap.size w (wc.alloc (Obj.cells #[Value.string c.name] 9)):=HBC.out.alloc HBC.out.size _;exact ⟨k+1,_,by omega,by go_num,iH hown,hB1.grown hgrow hB1.size (fun i hi=>(HOC.out.lt i hi).1)⟩
   case measure=>simp [intOf];omega
  ·have hke:k=pl.length:=by omega
   subst hke;obtain ⟨d,q,rfl⟩:=kN hO.out;go_wp2_with fail;go_ret;exact ⟨⟨d,pl.length,q,rfl⟩,hB.out⟩
end Go.Proofs.YtjoeojhdkoidbaaGreat
