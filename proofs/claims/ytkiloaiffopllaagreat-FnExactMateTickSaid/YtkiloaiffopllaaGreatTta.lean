import Derived.Test.YtkiloaiffopllaaGreatJ28
namespace Go.Proofs.YtkiloaiffopllaaGreat
open Go.RowKit Go.WideMaps Go.Maps
structure cU (D:DataW Unit) (xs:List Wnt):Prop where
 has_:∀ s,has D (kOf s)=xs.any (fun a=>decide (a.copy=s))
 at_:∀ x∈xs,D.atKey (kOf x.copy) (Gv ⟨⟨#[]⟩,0,⟨#[]⟩,0,0,0,0⟩)=Gv x
theorem aT {xs:List Wnt} (h:Aw (xs.map (·.copy)) xs.length=true):cU (Fq xs.reverse) xs:=by
 have hn:(xs.map (·.copy)).Nodup:=Nc (by rw [List.length_map];exact h);refine ⟨fun s=>by rw [Pk,Lr],fun x hx=>?_⟩;rw [Qr,Ia (f:=(·.copy)) (by rw [List.map_reverse];exact Kt hn) (List.mem_reverse.2 hx)]
theorem Xd (w:World):(zeroValue 86).run Tryz.prog w=.ok (.agg WwA) w:=by kernel_rfl
structure TG where
 p:Nat
 lo:Nat
 B0:Nat
 sb:Nat
 mb:Nat
 W0:World
 a5:OA
 c5:Nat
 o6:OA
 k6:Nat
 j6:Nat
 o7:OA
 k7:Nat
 j7:Nat
 o8:OA
 k8:Nat
 j8:Nat
 m1:Nat
 m2:Nat
 m3:Nat
 m4:Nat
def TG.Ord (G:TG):Prop:=G.W0.heap.size≤G.m1∧G.mb<G.m1∧G.m1<G.m2∧G.m2<G.m3∧G.m3<G.m4∧G.m4<G.p∧G.p<G.sb∧G.sb<G.B0
structure TkI (G:TG) (kb:Nat) (y:Mte) (ps:List Pcl) (w:World):Prop where
 hP:Blk G.p #[.string y.name,.bool y.up,.int .i64 y.clock,.bool y.known,.int .i64 y.seen,.slice G.a5 y.wants.length G.c5,.slice G.o6 G.k6 G.j6,.slice G.o7 G.k7 G.j7,.slice G.o8 G.k8 G.j8,.map (some G.m1),.map (some G.m2),.map (some G.m3),.map (some G.m4)] 125 w
 M1:∃ n D,w.ownsMap Tryz.prog 9 Ij G.m1 n D∧cU D y.wants
 M2:∃ n D,w.ownsMap Tryz.prog 9 Gs G.m2 n D∧n≤kb∧TabR D y.runs
 M3:∃ n D,w.ownsMap Tryz.prog 9 Bn G.m3 n D∧n≤kb∧TabA D y.asks
 M4:∃ n D,w.ownsMap Tryz.prog 9 Bn G.m4 n D∧n≤kb∧TabA D y.gives
 ok:TOk y
 s5:SliceC WntC 7 G.lo G.W0 G.a5 y.wants
 p5:∀ b o s,G.a5=some ⟨b,o,s⟩→s=none
 ord:G.Ord
 nmc:w.cell? ⟨G.mb,0,none⟩=some (.string y.name)
 snt:∃ a c,Blk G.sb #[.slice a ps.length c] 33 w∧w.ownsRow G.B0 54 7 (.slice a ps.length c) ps.length (Bg ps)
 big:G.B0≤w.heap.size
 hB:Below G.W0.heap.size G.W0 w
theorem Be {w w':World} {base:Nat} {e:TypeId} {s n:Nat} {v:Value} {cs:List Value} (h:w.ownsRow base e s v n cs) (k:∀ b o sp l c,v=.slice (some ⟨b,o,sp⟩) l c→w'.heap[b]?=w.heap[b]?):w'.ownsRow base e s v n cs:=by
 refine ⟨h.1,?_⟩;rcases h.2 with h1 | ⟨g,cap,cur,h1,h2,h3,h4⟩
 ·exact .inl h1
 ·exact .inr ⟨g,cap,cur,h1,h2,(k g 0 none n cap h1).trans h3,h4⟩
def RowNe (G:TG) (g:Nat) (w:World):Prop:=∀ a n c,w.cell? ⟨G.sb,0,none⟩=some (.slice a n c)→∀ o s,a≠some ⟨g,o,s⟩
def Ke (G:TG) (w w':World):Prop:=w.heap.size≤w'.heap.size∧∀ g,G.B0≤g→g<w.heap.size→RowNe G g w→w'.heap[g]?=w.heap[g]?∧RowNe G g w'
theorem Ke.refl (G:TG) (w:World):Ke G w w:=⟨Nat.le_refl _,fun _ _ _ h=>⟨rfl,h⟩⟩
theorem Ke.trans {G:TG} {a b c:World} (h:Ke G a b) (k:Ke G b c):Ke G a c :=
 ⟨lT h.1 k.1,fun g h1 h2 h3=>by
  obtain ⟨e1,r1⟩:=h.2 g h1 h2 h3;obtain ⟨e2,r2⟩:=k.2 g h1 (lL h2 h.1) r1
  exact ⟨e2.trans e1,r2⟩⟩
theorem Ck {w w':World} {g o:Nat} (h:w'.heap[g]?=w.heap[g]?):w'.cell? ⟨g,o,none⟩=w.cell? ⟨g,o,none⟩:=by simp only [World.cell?,h]
theorem Ke.of {G:TG} {w w':World} (hs:w.heap.size≤w'.heap.size) (hb:w'.heap[G.sb]?=w.heap[G.sb]?) (hk:∀ g,G.B0≤g→g<w.heap.size→w'.heap[g]?=w.heap[g]?):Ke G w w' :=
 ⟨hs,fun g h1 h2 h3=>⟨hk g h1 h2,fun a n c h=>h3 a n c (by rw [← Ck hb];exact h)⟩⟩
theorem Ke.below {G:TG} {w w':World} (hb:Below w.heap.size w w') (h:G.sb<w.heap.size):Ke G w w' :=
 Ke.of hb.size (hb.block _ h) (fun g _ h2=>hb.block g h2)
theorem Ke.drew {G:TG} (w:World):Ke G w w.drew:=Ke.of nL rfl (fun _ _ _=>rfl)
theorem Ke.grown {G:TG} {w w':World} {b:Nat} (hg:w.grownBy w' (some b)) (h:G.sb<w.heap.size) (hb:b<G.sb) (ho:G.Ord):Ke G w w':=by
 obtain ⟨_,_,_,_,_,_,_,h8⟩:=ho;exact Ke.of hg.size (hg.block _ h (fun e=>by have:=Option.some.inj e;omega)) (fun g h1 h2=>hg.block g h2 (fun e=>by have:=Option.some.inj e;omega))
theorem Ke.blk {G:TG} {w w':World} (k:Ke G w w') {g:Nat} {cs:Array Value} {t:TypeId} (h:Blk g cs t w) (h1:G.B0≤g) (hr:RowNe G g w):Blk g cs t w':=(k.2 g h1 h.lt hr).1.trans h
theorem TkI.sbl {G:TG} {kb:Nat} {y:Mte} {ps:List Pcl} {w:World} (h:TkI G kb y ps w):G.sb<w.heap.size:=lL h.ord.2.2.2.2.2.2.2 h.big
theorem TkI.pl {G:TG} {kb:Nat} {y:Mte} {ps:List Pcl} {w:World} (h:TkI G kb y ps w):G.p<G.B0:=by have:=h.ord.2.2.2.2.2.2;omega
theorem TkI.rowne {G:TG} {kb:Nat} {y:Mte} {ps:List Pcl} {w:World} (h:TkI G kb y ps w) {g:Nat} (hg:w.heap.size≤g):RowNe G g w:=by
 obtain ⟨a,c,hb,hr⟩:=h.snt;intro a' n' c' hc o s e;rw [hb.cell (o:=0) (v:=.slice a ps.length c) rfl] at hc;have e2:a=a':=by injection (Option.some.inj hc)
 subst e2;have:=Cw hr g o s e;omega
theorem TkI.keep {G:TG} {kb kb':Nat} {y:Mte} {ps:List Pcl} {w w':World} (h:TkI G kb y ps w) (hk:kb≤kb') (hb:Below G.W0.heap.size G.W0 w') (hs:w.heap.size≤w'.heap.size) (k:∀ b,b<w.heap.size→w'.heap[b]?=w.heap[b]?):TkI G kb' y ps w':=by
 have o:=h.ord;obtain ⟨o1,o2,o3,o4,o5,o6,o7,o8⟩:=o;have hg:=h.big;obtain ⟨n1,D1,e1,t1⟩:=h.M1;obtain ⟨n2,D2,e2,q2,t2⟩:=h.M2;obtain ⟨n3,D3,e3,q3,t3⟩:=h.M3;obtain ⟨n4,D4,e4,q4,t4⟩:=h.M4;obtain ⟨a,c,s1,s2⟩:=h.snt
 exact ⟨(k _ h.hP.lt).trans h.hP,⟨n1,D1,Bt e1 (k _ e1.lt),t1⟩,⟨n2,D2,Bt e2 (k _ e2.lt),lT q2 hk,t2⟩,⟨n3,D3,Bt e3 (k _ e3.lt),lT q3 hk,t3⟩,⟨n4,D4,Bt e4 (k _ e4.lt),lT q4 hk,t4⟩,h.ok,h.s5,h.p5,h.ord,(Ck (k _ (by omega))).trans h.nmc,
  ⟨a,c,(k _ s1.lt).trans s1,Be s2 (fun b o sp l c' e=>k _ (Cw s2 b o sp (by injection e)))⟩,lT h.big hs,hb⟩
theorem TkI.below {G:TG} {kb:Nat} {y:Mte} {ps:List Pcl} {w w':World} (h:TkI G kb y ps w) (hb:Below w.heap.size w w'):TkI G kb y ps w' :=
 h.keep nL (h.hB.trans (hb.mono h.hB.size)) hb.size (fun b hl=>hb.block b hl)
theorem TkI.drew {G:TG} {kb:Nat} {y:Mte} {ps:List Pcl} {w:World} (h:TkI G kb y ps w):TkI G kb y ps w.drew :=
 h.keep nL h.hB.drew nL (fun _ _=>rfl)
theorem TkI.more {G:TG} {kb kb':Nat} {y:Mte} {ps:List Pcl} {w:World} (h:TkI G kb y ps w) (hk:kb≤kb'):TkI G kb' y ps w :=
 h.keep hk h.hB nL (fun _ _=>rfl)
theorem TkI.store {G:TG} {kb:Nat} {y:Mte} {ps:List Pcl} {w:World} (h:TkI G kb y ps w) {g:Nat} (hg:G.B0≤g) (hr:RowNe G g w) (o:Nat) (vs:List Value):TkI G kb y ps (w.setCells g o vs):=by
 have oo:=h.ord;obtain ⟨o1,o2,o3,o4,o5,o6,o7,o8⟩:=oo;have k:∀ b,b≠g→(w.setCells g o vs).heap[b]?=w.heap[b]?:=by
  intro b hb;clear hr h hg
  induction vs generalizing o w with
  | nil=>rfl
  | cons v r ih=>exact (ih (o:=o+1)).trans (Below.heap_setCell w ⟨g,o,none⟩ v b hb)
 obtain ⟨n1,D1,e1,t1⟩:=h.M1;obtain ⟨n2,D2,e2,q2,t2⟩:=h.M2;obtain ⟨n3,D3,e3,q3,t3⟩:=h.M3;obtain ⟨n4,D4,e4,q4,t4⟩:=h.M4;obtain ⟨a,c,s1,s2⟩:=h.snt
 exact ⟨(k _ (by omega)).trans h.hP,⟨n1,D1,Bt e1 (k _ (by omega)),t1⟩,⟨n2,D2,Bt e2 (k _ (by omega)),q2,t2⟩,⟨n3,D3,Bt e3 (k _ (by omega)),q3,t3⟩,⟨n4,D4,Bt e4 (k _ (by omega)),q4,t4⟩,h.ok,h.s5,h.p5,h.ord,(Ck (k _ (by omega))).trans h.nmc,
  ⟨a,c,(k _ (by omega)).trans s1,Be s2 (fun b o sp l c' e=>k _ (fun e2=>by subst e2;injection e with e3;exact hr a _ c (s1.cell (o:=0) rfl) o sp e3))⟩,by rw [Al];exact h.big,Aa (by omega) _ _ _ h.hB⟩
theorem TkI.alloc {G:TG} {kb:Nat} {y:Mte} {ps:List Pcl} {w:World} (h:TkI G kb y ps w) (o:Obj):TkI G kb y ps (w.alloc o):=h.below ((Below.refl _ _).alloc nL _)
theorem TkI.lookW {G:TG} {kb:Nat} {y:Mte} {ps:List Pcl} {w:World} (h:TkI G kb y ps w) {s:BA} (hs:s.size≤20) :
  (∀ x,y.wants.find? (fun a=>decide (a.copy=s))=some x→(Instr.lookup 115 (.map (some G.m1)) (.string s) true).run Tryz.prog w=.ok (.tuple #[.agg (wwA x),.bool true]) w) ∧
  (y.wants.find? (fun a=>decide (a.copy=s))=none→(Instr.lookup 115 (.map (some G.m1)) (.string s) true).run Tryz.prog w=.ok (.tuple #[.agg WwA,.bool false]) w):=by
 have hz:s.size≤maxLen:=by unfold maxLen;omega
 obtain ⟨n,D,hv,ht⟩:=h.M1;obtain ⟨u,us,hrun,hu⟩:=hv.look_ok Bo Tryz.underlying115 (Xd _) (Rp ⟨⟨#[]⟩,0,⟨#[]⟩,0,0,0,0⟩) (keyOf_string_mk Tryz.underlying9 hz);constructor
 ·intro x hf
  have hx:=List.mem_of_find?_eq_some hf;have he:x.copy=s:=by have h9:=List.find?_some hf;exact of_decide_eq_true h9
  have hh:has D (kOf s)=true:=by
   rw [ht.has_ s,List.any_eq_true];exact ⟨x,hx,decide_eq_true he⟩
  have hv2:Ij u=some (Gv x,us):=hu.trans (congrArg (fun d=>some (d,us)) (he▸ht.at_ x hx));obtain ⟨z,rfl,e⟩:=Ov hv2;have:x=z:=Pg (congrArg Prod.fst e);subst this;rw [hrun];exact congrArg (fun b=>Result.ok (Value.tuple #[.agg (wwA x),.bool b]) w) hh
 ·intro hf
  have hh:has D (kOf s)=false:=by
   rw [ht.has_ s,List.any_eq_false];intro a ha;exact List.find?_eq_none.1 hf a ha
  have hv2:Ij u=some (Gv ⟨⟨#[]⟩,0,⟨#[]⟩,0,0,0,0⟩,us):=hu.trans (congrArg (fun d=>some (d,us)) (atKey_of_not_has hh _));obtain ⟨z,rfl,e⟩:=Ov hv2;have:(⟨⟨#[]⟩,0,⟨#[]⟩,0,0,0,0⟩:Wnt)=z:=Pg (congrArg Prod.fst e);subst this;rw [hrun];exact congrArg (fun b=>Result.ok (Value.tuple #[.agg WwA,.bool b]) w) hh
theorem TkI.lookR {G:TG} {kb:Nat} {y:Mte} {ps:List Pcl} {w:World} (h:TkI G kb y ps w) {s:BA} (hs:s.size≤20) :
  (∀ x,y.runs.find? (fun a=>decide (a.want.copy=s))=some x→(Instr.lookup 118 (.map (some G.m2)) (.string s) true).run Tryz.prog w=.ok (.tuple #[.agg (rrA x),.bool true]) w) ∧
  (y.runs.find? (fun a=>decide (a.want.copy=s))=none→(Instr.lookup 118 (.map (some G.m2)) (.string s) true).run Tryz.prog w=.ok (.tuple #[.agg RrA,.bool false]) w):=by
 obtain ⟨n,D,hv,_,ht⟩:=h.M2;rcases Zf (m:=G.m2) (n:=n) ht (show s.size≤1048576 by omega) with ⟨x,hf,hl⟩ | ⟨hf,hl⟩
 ·exact ⟨fun z hz=>(by rw [hf] at hz;cases hz;exact hl w hv),fun hn=>(by rw [hf] at hn;cases hn)⟩
 ·exact ⟨fun z hz=>(by rw [hf] at hz;cases hz),fun _=>hl w hv⟩
theorem TkI.lookA {G:TG} {kb:Nat} {y:Mte} {ps:List Pcl} {w:World} (h:TkI G kb y ps w) {s:BA} (hs:s.size≤20) :
  (∀ x,y.asks.find? (fun a=>decide (a.hold=s))=some x→(Instr.lookup 121 (.map (some G.m3)) (.string s) true).run Tryz.prog w=.ok (.tuple #[.agg (aaA x),.bool true]) w) ∧
  (y.asks.find? (fun a=>decide (a.hold=s))=none→(Instr.lookup 121 (.map (some G.m3)) (.string s) true).run Tryz.prog w=.ok (.tuple #[.agg AaA,.bool false]) w):=by
 obtain ⟨n,D,hv,_,ht⟩:=h.M3;rcases Ra (m:=G.m3) (n:=n) ht (show s.size≤1048576 by omega) with ⟨x,hf,hl⟩ | ⟨hf,hl⟩
 ·exact ⟨fun z hz=>(by rw [hf] at hz;cases hz;exact hl w hv),fun hn=>(by rw [hf] at hn;cases hn)⟩
 ·exact ⟨fun z hz=>(by rw [hf] at hz;cases hz),fun _=>hl w hv⟩
theorem TkI.lookG {G:TG} {kb:Nat} {y:Mte} {ps:List Pcl} {w:World} (h:TkI G kb y ps w) {s:BA} (hs:s.size≤20) :
  (∀ x,y.gives.find? (fun a=>decide (a.hold=s))=some x→(Instr.lookup 121 (.map (some G.m4)) (.string s) true).run Tryz.prog w=.ok (.tuple #[.agg (aaA x),.bool true]) w) ∧
  (y.gives.find? (fun a=>decide (a.hold=s))=none→(Instr.lookup 121 (.map (some G.m4)) (.string s) true).run Tryz.prog w=.ok (.tuple #[.agg AaA,.bool false]) w):=by
 obtain ⟨n,D,hv,_,ht⟩:=h.M4;rcases Ra (m:=G.m4) (n:=n) ht (show s.size≤1048576 by omega) with ⟨x,hf,hl⟩ | ⟨hf,hl⟩
 ·exact ⟨fun z hz=>(by rw [hf] at hz;cases hz;exact hl w hv),fun hn=>(by rw [hf] at hn;cases hn)⟩
 ·exact ⟨fun z hz=>(by rw [hf] at hz;cases hz),fun _=>hl w hv⟩
theorem TkI.lookP {G:TG} {kb:Nat} {y:Mte} {ps:List Pcl} {w:World} (h:TkI G kb y ps w) {s:BA} (hs:s.size≤20) :
  (∀ x,y.asks.find? (fun a=>decide (a.hold=s))=some x→(Instr.lookup 121 (.map (some G.m3)) (.string s) false).run Tryz.prog w=.ok (.agg (aaA x)) w) ∧
  (y.asks.find? (fun a=>decide (a.hold=s))=none→(Instr.lookup 121 (.map (some G.m3)) (.string s) false).run Tryz.prog w=.ok (.agg AaA) w):=by
 obtain ⟨n,D,hv,_,ht⟩:=h.M3;obtain ⟨u,us,hrun,hu⟩:=hv.lookup Bo Tryz.underlying121 (Hd _) (Dd ⟨⟨#[]⟩,⟨#[]⟩,0,0⟩) (keyOf_string_mk Tryz.underlying9 (show s.size≤maxLen by unfold maxLen;omega));constructor
 ·intro x hf
  have hx:=List.mem_of_find?_eq_some hf;have he:x.hold=s:=by have h9:=List.find?_some hf;exact of_decide_eq_true h9
  have hv2:Bn u=some (Iz x,us):=hu.trans (congrArg (fun d=>some (d,us)) (he▸ht.at_ x hx));obtain ⟨z,rfl,e⟩:=Dt hv2;have:x=z:=Hn (congrArg Prod.fst e);subst this;exact hrun
 ·intro hf
  have hh:has D (kOf s)=false:=by
   rw [ht.has_ s,List.any_eq_false];intro a ha;exact List.find?_eq_none.1 hf a ha
  have hv2:Bn u=some (Iz ⟨⟨#[]⟩,⟨#[]⟩,0,0⟩,us):=hu.trans (congrArg (fun d=>some (d,us)) (atKey_of_not_has hh _));obtain ⟨z,rfl,e⟩:=Dt hv2;have:(⟨⟨#[]⟩,⟨#[]⟩,0,0⟩:Aks)=z:=Hn (congrArg Prod.fst e);subst this;exact hrun
theorem TkI.put2 {G:TG} {kb:Nat} {y:Mte} {ps:List Pcl} {w:World} (h:TkI G kb y ps w) (r:Rn) {s:BA} (hs:r.want.copy=s) (hz:r.want.copy.size≤20) (hkb:kb≤2000000) (hok:TOk { y with runs:=Az (·.want.copy) y.runs r }) :
  ∃ w',(Instr.mapUpdate 118 (.map (some G.m2)) (.string s) (.agg (rrA r))).run Tryz.prog w=.ok () w'∧TkI G (kb+1) { y with runs:=Az (·.want.copy) y.runs r } ps w'∧w.grownBy w' (some G.m2)∧Ke G w w':=by
 subst hs;have oo:=h.ord;obtain ⟨o1,o2,o3,o4,o5,o6,o7,o8⟩:=oo;have hbig:=h.big;obtain ⟨n1,D1,e1,t1⟩:=h.M1;obtain ⟨n2,D2,e2,q2,t2⟩:=h.M2;obtain ⟨n3,D3,e3,q3,t3⟩:=h.M3;obtain ⟨n4,D4,e4,q4,t4⟩:=h.M4;obtain ⟨a,c,s1,s2⟩:=h.snt;obtain ⟨w',hrun,hown,hturn⟩:=e2.store Bo Tryz.underlying118 (show n2<maxLen by unfold maxLen;omega) (keyOf_string_mk Tryz.underlying9 (lT hz (by decide))) (Ju r);have hg:=hturn.grown;have hsz:=hg.size;refine ⟨w',hrun,⟨Bl h.hP hg (by omega),⟨n1,D1,Cd e1 hg (by omega),t1⟩,⟨n2+1,_,hown,Nat.succ_le_succ q2,t2.set e2.isMap r h.ok.A6⟩,⟨n3,D3,Cd e3 hg (by omega),Nat.le_succ_of_le q3,t3⟩,⟨n4,D4,Cd e4 hg (by omega),Nat.le_succ_of_le q4,t4⟩,hok,h.s5,h.p5,h.ord,(Ck (hg.block _ (by omega) (fun e=>by have:=Option.some.inj e;omega))).trans h.nmc,⟨a,c,Bl s1 hg (by omega),Be s2 (fun b o sp l c' e=>?_)⟩,lT hbig hsz,h.hB.grown hg h.hB.size (fun j hj=>by cases hj;omega)⟩,hg,Ke.grown hg (by omega) (by omega) h.ord⟩;have e2:a=some ⟨b,o,sp⟩:=by injection e
 have h2:=Cw s2 b o sp e2;have h3:G.B0≤b:=by
  rcases s2.2 with ⟨h4,_⟩ | ⟨g',cap',cur,h4,h5,_⟩
  ·rw [e] at h4;cases h4
  ·rw [e] at h4;cases h4;exact h5
 exact hg.block b h2 (fun e3=>by have:=Option.some.inj e3;omega)
theorem TkI.put3 {G:TG} {kb:Nat} {y:Mte} {ps:List Pcl} {w:World} (h:TkI G kb y ps w) (r:Aks) {s:BA} (hs:r.hold=s) (hz:r.hold.size≤20) (hkb:kb≤2000000) (hok:TOk { y with asks:=Az (·.hold) y.asks r }) :
  ∃ w',(Instr.mapUpdate 121 (.map (some G.m3)) (.string s) (.agg (aaA r))).run Tryz.prog w=.ok () w'∧TkI G (kb+1) { y with asks:=Az (·.hold) y.asks r } ps w'∧w.grownBy w' (some G.m3)∧Ke G w w':=by
 subst hs;have oo:=h.ord;obtain ⟨o1,o2,o3,o4,o5,o6,o7,o8⟩:=oo;have hbig:=h.big;obtain ⟨n1,D1,e1,t1⟩:=h.M1;obtain ⟨n2,D2,e2,q2,t2⟩:=h.M2;obtain ⟨n3,D3,e3,q3,t3⟩:=h.M3;obtain ⟨n4,D4,e4,q4,t4⟩:=h.M4;obtain ⟨a,c,s1,s2⟩:=h.snt;obtain ⟨w',hrun,hown,hturn⟩:=e3.store Bo Tryz.underlying121 (show n3<maxLen by unfold maxLen;omega) (keyOf_string_mk Tryz.underlying9 (lT hz (by decide))) (Dd r);have hg:=hturn.grown;have hsz:=hg.size;refine ⟨w',hrun,⟨Bl h.hP hg (by omega),⟨n1,D1,Cd e1 hg (by omega),t1⟩,⟨n2,D2,Cd e2 hg (by omega),Nat.le_succ_of_le q2,t2⟩,⟨n3+1,_,hown,Nat.succ_le_succ q3,t3.set e3.isMap r h.ok.A7⟩,⟨n4,D4,Cd e4 hg (by omega),Nat.le_succ_of_le q4,t4⟩,hok,h.s5,h.p5,h.ord,(Ck (hg.block _ (by omega) (fun e=>by have:=Option.some.inj e;omega))).trans h.nmc,⟨a,c,Bl s1 hg (by omega),Be s2 (fun b o sp l c' e=>?_)⟩,lT hbig hsz,h.hB.grown hg h.hB.size (fun j hj=>by cases hj;omega)⟩,hg,Ke.grown hg (by omega) (by omega) h.ord⟩;have e2:a=some ⟨b,o,sp⟩:=by injection e
 have h2:=Cw s2 b o sp e2;have h3:G.B0≤b:=by
  rcases s2.2 with ⟨h4,_⟩ | ⟨g',cap',cur,h4,h5,_⟩
  ·rw [e] at h4;cases h4
  ·rw [e] at h4;cases h4;exact h5
 exact hg.block b h2 (fun e3=>by have:=Option.some.inj e3;omega)
theorem TkI.put4 {G:TG} {kb:Nat} {y:Mte} {ps:List Pcl} {w:World} (h:TkI G kb y ps w) (r:Aks) {s:BA} (hs:r.hold=s) (hz:r.hold.size≤20) (hkb:kb≤2000000) (hok:TOk { y with gives:=Az (·.hold) y.gives r }) :
  ∃ w',(Instr.mapUpdate 121 (.map (some G.m4)) (.string s) (.agg (aaA r))).run Tryz.prog w=.ok () w'∧TkI G (kb+1) { y with gives:=Az (·.hold) y.gives r } ps w'∧w.grownBy w' (some G.m4)∧Ke G w w':=by
 subst hs;have oo:=h.ord;obtain ⟨o1,o2,o3,o4,o5,o6,o7,o8⟩:=oo;have hbig:=h.big;obtain ⟨n1,D1,e1,t1⟩:=h.M1;obtain ⟨n2,D2,e2,q2,t2⟩:=h.M2;obtain ⟨n3,D3,e3,q3,t3⟩:=h.M3;obtain ⟨n4,D4,e4,q4,t4⟩:=h.M4;obtain ⟨a,c,s1,s2⟩:=h.snt;obtain ⟨w',hrun,hown,hturn⟩:=e4.store Bo Tryz.underlying121 (show n4<maxLen by unfold maxLen;omega) (keyOf_string_mk Tryz.underlying9 (lT hz (by decide))) (Dd r);have hg:=hturn.grown;have hsz:=hg.size;refine ⟨w',hrun,⟨Bl h.hP hg (by omega),⟨n1,D1,Cd e1 hg (by omega),t1⟩,⟨n2,D2,Cd e2 hg (by omega),Nat.le_succ_of_le q2,t2⟩,⟨n3,D3,Cd e3 hg (by omega),Nat.le_succ_of_le q3,t3⟩,⟨n4+1,_,hown,Nat.succ_le_succ q4,t4.set e4.isMap r h.ok.A8⟩,hok,h.s5,h.p5,h.ord,(Ck (hg.block _ (by omega) (fun e=>by have:=Option.some.inj e;omega))).trans h.nmc,⟨a,c,Bl s1 hg (by omega),Be s2 (fun b o sp l c' e=>?_)⟩,lT hbig hsz,h.hB.grown hg h.hB.size (fun j hj=>by cases hj;omega)⟩,hg,Ke.grown hg (by omega) (by omega) h.ord⟩;have e2:a=some ⟨b,o,sp⟩:=by injection e
 have h2:=Cw s2 b o sp e2;have h3:G.B0≤b:=by
  rcases s2.2 with ⟨h4,_⟩ | ⟨g',cap',cur,h4,h5,_⟩
  ·rw [e] at h4;cases h4
  ·rw [e] at h4;cases h4;exact h5
 exact hg.block b h2 (fun e3=>by have:=Option.some.inj e3;omega)
theorem TkI.del2 {G:TG} {kb:Nat} {y:Mte} {ps:List Pcl} {w:World} (h:TkI G kb y ps w) (s:BA) (hz:s.size≤20) (hok:TOk { y with runs:=y.runs.filter (fun z=>!decide (z.want.copy=s)) }) :
  ∃ w',(Builtin.delete_ #[118,9] 0 #[.map (some G.m2),.string s]).run Tryz.prog w=.ok (.tuple #[]) w'∧TkI G kb { y with runs:=y.runs.filter (fun z=>!decide (z.want.copy=s)) } ps w'∧w.grownBy w' (some G.m2)∧Ke G w w':=by
 have oo:=h.ord;obtain ⟨o1,o2,o3,o4,o5,o6,o7,o8⟩:=oo;have hbig:=h.big;obtain ⟨n1,D1,e1,t1⟩:=h.M1;obtain ⟨n2,D2,e2,q2,t2⟩:=h.M2;obtain ⟨n3,D3,e3,q3,t3⟩:=h.M3;obtain ⟨n4,D4,e4,q4,t4⟩:=h.M4;obtain ⟨a,c,s1,s2⟩:=h.snt;obtain ⟨w',hrun,hown,hturn⟩:=e2.drop Bo Tryz.underlying118 (keyOf_string_mk Tryz.underlying9 (lT hz (by decide))) 0;have hg:=hturn.grown;have hsz:=hg.size;refine ⟨w',hrun,⟨Bl h.hP hg (by omega),⟨n1,D1,Cd e1 hg (by omega),t1⟩,⟨n2,_,hown,q2,t2.del s⟩,⟨n3,D3,Cd e3 hg (by omega),q3,t3⟩,⟨n4,D4,Cd e4 hg (by omega),q4,t4⟩,hok,h.s5,h.p5,h.ord,(Ck (hg.block _ (by omega) (fun e=>by have:=Option.some.inj e;omega))).trans h.nmc,⟨a,c,Bl s1 hg (by omega),Be s2 (fun b o sp l c' e=>?_)⟩,lT hbig hsz,h.hB.grown hg h.hB.size (fun j hj=>by cases hj;omega)⟩,hg,Ke.grown hg (by omega) (by omega) h.ord⟩;have e2:a=some ⟨b,o,sp⟩:=by injection e
 have h2:=Cw s2 b o sp e2;have h3:G.B0≤b:=by
  rcases s2.2 with ⟨h4,_⟩ | ⟨g',cap',cur,h4,h5,_⟩
  ·rw [e] at h4;cases h4
  ·rw [e] at h4;cases h4;exact h5
 exact hg.block b h2 (fun e3=>by have:=Option.some.inj e3;omega)
theorem TkI.del3 {G:TG} {kb:Nat} {y:Mte} {ps:List Pcl} {w:World} (h:TkI G kb y ps w) (s:BA) (hz:s.size≤20) (hok:TOk { y with asks:=y.asks.filter (fun z=>!decide (z.hold=s)) }) :
  ∃ w',(Builtin.delete_ #[121,9] 0 #[.map (some G.m3),.string s]).run Tryz.prog w=.ok (.tuple #[]) w'∧TkI G kb { y with asks:=y.asks.filter (fun z=>!decide (z.hold=s)) } ps w'∧w.grownBy w' (some G.m3)∧Ke G w w':=by
 have oo:=h.ord;obtain ⟨o1,o2,o3,o4,o5,o6,o7,o8⟩:=oo;have hbig:=h.big;obtain ⟨n1,D1,e1,t1⟩:=h.M1;obtain ⟨n2,D2,e2,q2,t2⟩:=h.M2;obtain ⟨n3,D3,e3,q3,t3⟩:=h.M3;obtain ⟨n4,D4,e4,q4,t4⟩:=h.M4;obtain ⟨a,c,s1,s2⟩:=h.snt;obtain ⟨w',hrun,hown,hturn⟩:=e3.drop Bo Tryz.underlying121 (keyOf_string_mk Tryz.underlying9 (lT hz (by decide))) 0;have hg:=hturn.grown;have hsz:=hg.size;refine ⟨w',hrun,⟨Bl h.hP hg (by omega),⟨n1,D1,Cd e1 hg (by omega),t1⟩,⟨n2,D2,Cd e2 hg (by omega),q2,t2⟩,⟨n3,_,hown,q3,t3.del s⟩,⟨n4,D4,Cd e4 hg (by omega),q4,t4⟩,hok,h.s5,h.p5,h.ord,(Ck (hg.block _ (by omega) (fun e=>by have:=Option.some.inj e;omega))).trans h.nmc,⟨a,c,Bl s1 hg (by omega),Be s2 (fun b o sp l c' e=>?_)⟩,lT hbig hsz,h.hB.grown hg h.hB.size (fun j hj=>by cases hj;omega)⟩,hg,Ke.grown hg (by omega) (by omega) h.ord⟩;have e2:a=some ⟨b,o,sp⟩:=by injection e
 have h2:=Cw s2 b o sp e2;have h3:G.B0≤b:=by
  rcases s2.2 with ⟨h4,_⟩ | ⟨g',cap',cur,h4,h5,_⟩
  ·rw [e] at h4;cases h4
  ·rw [e] at h4;cases h4;exact h5
 exact hg.block b h2 (fun e3=>by have:=Option.some.inj e3;omega)
theorem Blk.rangeP {g:Nat} {us vs:List Value} {t:TypeId} {w:World} (h:Blk g (us++vs).toArray t w):w.rangeAt g 0 us:=fun j v hj =>
 h.range j v (by rw [List.getElem?_append_left (Ah hj)];exact hj)
theorem Rf {P:Program} {w w':World} {ops:Array Oper} {rest:List Oper} {o:Oper} {a:Act} {Q:Exit→Act→World→Prop} (hgd:o.guard=none) (m x:Operand) (t k:TypeId) (hop:o.op=Op.call { callee:=Callee.builtin Builtin.delete,args:=#[m,x],argTypes:=#[t,k] }) (b:Nat) (key:Value)
  (hm:a.eval m=.map (some b)) (hx:a.eval x=key) (hrun:(Builtin.delete_ #[t,k] o.type #[.map (some b),key]).run P w=.ok (.tuple #[]) w') (hK:wpList P ops Q rest (a.put o.dst (.tuple #[])) w'):wpList P ops Q (o::rest) a w :=
 wpList_plain hgd fun _ hK'=>Ok m x t k hop b key hm hx hrun (hK' _ _ hK)
theorem Kz {P:Program} {w:World} {ops:Array Oper} {rest:List Oper} {o:Oper} {a:Act} {Q:Exit→Act→World→Prop} (hgd:o.guard=none) (m:Operand) (t:TypeId) (hop:o.op=Op.call { callee:=Callee.builtin Builtin.len,args:=#[m],argTypes:=#[t] }) (b:Nat) (L:Int)
  (hm:a.eval m=.map (some b)) (hrun:∀ ty,(Builtin.len_ #[t] ty #[.map (some b)]).run P w=.ok (.int .i64 L) w) (hK:wpList P ops Q rest (a.put o.dst (.int .i64 L)) w):wpList P ops Q (o::rest) a w:=by
 refine wpList_plain hgd fun K' hK'=>?_
 unfold Oper.wp;simp [execOp,hop,resolve,invoke,builtin,hm,hrun,Result.andThen];exact hK' _ _ hK
theorem TkI.len2 {G:TG} {kb:Nat} {y:Mte} {ps:List Pcl} {w:World} (h:TkI G kb y ps w) (ty:TypeId):(Builtin.len_ #[118] ty #[.map (some G.m2)]).run Tryz.prog w=.ok (.int .i64 (y.runs.length:Int)) w:=by
 obtain ⟨n,D,e,_,t⟩:=h.M2;rw [e.len Tryz.underlying118 ty,t.size e Bo Tryz.underlying9 h.ok.A6]
theorem TkI.len3 {G:TG} {kb:Nat} {y:Mte} {ps:List Pcl} {w:World} (h:TkI G kb y ps w) (ty:TypeId):(Builtin.len_ #[121] ty #[.map (some G.m3)]).run Tryz.prog w=.ok (.int .i64 (y.asks.length:Int)) w:=by
 obtain ⟨n,D,e,_,t⟩:=h.M3;rw [e.len Tryz.underlying121 ty,t.size e Bo Tryz.underlying9 h.ok.A7]
theorem TkI.len4 {G:TG} {kb:Nat} {y:Mte} {ps:List Pcl} {w:World} (h:TkI G kb y ps w) (ty:TypeId):(Builtin.len_ #[121] ty #[.map (some G.m4)]).run Tryz.prog w=.ok (.int .i64 (y.gives.length:Int)) w:=by
 obtain ⟨n,D,e,_,t⟩:=h.M4;rw [e.len Tryz.underlying121 ty,t.size e Bo Tryz.underlying9 h.ok.A8]
structure Bx (G:TG) (g:Nat) (cs:Array Value) (t:TypeId) (w:World):Prop where
 b:Blk g cs t w
 hi:G.B0≤g
 rn:RowNe G g w
theorem RowNe.heap {G:TG} {g:Nat} {w w':World} (h:RowNe G g w) (k:w'.heap[G.sb]?=w.heap[G.sb]?):RowNe G g w':=fun a n c hc=>h a n c (by rw [← Ck k];exact hc)
theorem Bv (g b:Nat) (hb:b≠g):∀ (vs:List Value) (o:Nat) (w:World),(w.setCells g o vs).heap[b]?=w.heap[b]?
 | [],_,_=>rfl
 | v::r,o,w=>(Bv g b hb r (o+1) _).trans (Below.heap_setCell w ⟨g,o,none⟩ v b hb)
theorem TkI.bx {G:TG} {kb:Nat} {y:Mte} {ps:List Pcl} {w:World} (h:TkI G kb y ps w) (cs:Array Value) (t:TypeId):Bx G w.heap.size cs t (w.alloc (.cells cs t)) :=
 ⟨Blk.alloc _ _ _,h.big,(h.rowne nL).heap (((Below.refl w.heap.size w).alloc nL _).block _ h.sbl)⟩
theorem Bx.below {G:TG} {g:Nat} {cs:Array Value} {t:TypeId} {w w':World} (h:Bx G g cs t w) (o:G.Ord) (hb:Below w.heap.size w w'):Bx G g cs t w' :=
 ⟨h.b.below hb h.b.lt,h.hi,h.rn.heap (hb.block _ (by have:=h.b.lt;have:=h.hi;have:=o.2.2.2.2.2.2.2;omega))⟩
theorem Bx.drew {G:TG} {g:Nat} {cs:Array Value} {t:TypeId} {w:World} (h:Bx G g cs t w):Bx G g cs t w.drew:=⟨h.b.drew,h.hi,h.rn.heap rfl⟩
theorem Bx.ke {G:TG} {g:Nat} {cs:Array Value} {t:TypeId} {w w':World} (h:Bx G g cs t w) (k:Ke G w w'):Bx G g cs t w':=⟨k.blk h.b h.hi h.rn,h.hi,(k.2 g h.hi h.b.lt h.rn).2⟩
theorem Bx.all {G:TG} {g:Nat} {cs:Array Value} {t:TypeId} {w:World} (h:Bx G g cs t w) (o:G.Ord) (vs:Array Value) (hl:vs.size=cs.size):Bx G g vs t (w.setCells g 0 vs.toList) :=
 ⟨h.b.setAll vs hl,h.hi,h.rn.heap (Bv _ _ (by have:=h.hi;have:=o.2.2.2.2.2.2.2;omega) _ _ _)⟩
theorem Bx.other {G:TG} {g b:Nat} {cs:Array Value} {t:TypeId} {w:World} (h:Bx G g cs t w) (o:G.Ord) (hb:G.B0≤b) (hne:g≠b) (k:Nat) (vs:List Value):Bx G g cs t (w.setCells b k vs) :=
 ⟨Ar hne _ _ _ h.b,h.hi,h.rn.heap (Bv _ _ (by have:=o.2.2.2.2.2.2.2;omega) _ _ _)⟩
theorem TkI.st {G:TG} {kb:Nat} {y:Mte} {ps:List Pcl} {w:World} (h:TkI G kb y ps w) {g:Nat} {cs:Array Value} {t:TypeId} (b:Bx G g cs t w) (o:Nat) (vs:List Value):TkI G kb y ps (w.setCells g o vs):=h.store b.hi b.rn o vs
theorem Ke.st {G:TG} {w0 w:World} {g:Nat} (o:G.Ord) (hB:w0.heap.size≤g) (hg:G.B0≤g) (k:Nat) (vs:List Value) (h:Ke G w0 w):Ke G w0 (w.setCells g k vs) :=
 ⟨by rw [Al];exact h.1,fun b h1 h2 h3=>by
  obtain ⟨e,r⟩:=h.2 b h1 h2 h3
  exact ⟨(Bv _ _ (by omega) _ _ _).trans e,r.heap (Bv _ _ (by have:=o.2.2.2.2.2.2.2;omega) _ _ _)⟩⟩
structure Ls (G:TG) (e:TypeId) (s:Nat) (a:OA) (n q:Nat) (cs:List Value) (w:World):Prop where
 r:w.ownsRow G.B0 e s (.slice a n q) n cs
 rn:∀ b o sp,a=some ⟨b,o,sp⟩→RowNe G b w
theorem Ls.ke {G:TG} {e:TypeId} {s:Nat} {a:OA} {n q:Nat} {cs:List Value} {w w':World} (h:Ls G e s a n q cs w) (k:Ke G w w'):Ls G e s a n q cs w':=by
 have hk:∀ b o sp,a=some ⟨b,o,sp⟩→w'.heap[b]?=w.heap[b]?∧RowNe G b w':=fun b o sp ea=>by
  have h2:=Cw h.r b o sp ea;have h3:G.B0≤b:=by
   rcases h.r.2 with ⟨h4,_⟩ | ⟨g',cap',cur,h4,h5,_⟩
   ·rw [ea] at h4;cases h4
   ·rw [ea] at h4;cases h4;exact h5
  exact k.2 b h3 h2 (h.rn b o sp ea)
 exact ⟨Be h.r (fun b o sp l c e=>(hk b o sp (by injection e)).1),fun b o sp ea=>(hk b o sp ea).2⟩
theorem TkI.ls {G:TG} {kb:Nat} {y:Mte} {ps:List Pcl} {w w':World} (h:TkI G kb y ps w) {e:TypeId} {s:Nat} {a:OA} {n q:Nat} {cs:List Value} (hr:w'.ownsRow w.heap.size e s (.slice a n q) n cs) (hb:Below w.heap.size w w'):Ls G e s a n q cs w' :=
 ⟨ownsRow_base_a hr h.big,fun b o sp ea=>(h.rowne (by
  rcases hr.2 with ⟨h4,_⟩ | ⟨g',cap',cur,h4,h5,_⟩
  ·rw [ea] at h4;cases h4
  ·rw [ea] at h4;cases h4;exact h5)).heap (hb.block _ h.sbl)⟩
end Go.Proofs.YtkiloaiffopllaaGreat
