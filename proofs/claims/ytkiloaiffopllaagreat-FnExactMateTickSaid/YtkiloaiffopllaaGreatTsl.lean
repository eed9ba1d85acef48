import Derived.Test.YtkiloaiffopllaaGreatTas
namespace Go.Proofs.YtkiloaiffopllaaGreat
open Go.RowKit
theorem Ay {P:Program} {op:Oper} {a:Act} {w:World} {K:Act→World→Prop} {Q:Exit→Act→World→Prop} (s x:Operand) (t:TypeId)
  (ho:op.op=.call { callee:=.builtin .append,args:=#[s,x],argTypes:=#[t,t] })
  (base:Nat) (e:TypeId) (i:TypeInfo) (z:Value) (size bytes:Nat) (ht:P.underlying t=some (.slice e)) (hi:P.info? e=some i) (hz:i.zero=some z)
  (hsize:i.size=size) (hby:i.bytes=bytes) (hzs:z.cells.size=size) (hsz:0<size)
  (v:Value) (n:Nat) (xs:List Value) (hs:a.eval s=v) (hown:w.ownsRow base e size v n xs)
  (ad:Addr) (m c:Nat) (news:List Value) (hx:a.eval x=.slice (some ad) m c) (hl:news.length=m*size) (hnews:∀ j u,news[j]?=some u→w.cell? (ad.add j)=some u) (h1:∀ u∈news,u.oneCell'=true)
  (h63:n+m≤maxLen) (hbytes:(n+m)*bytes≤140737488355328) (hbase:base≤w.heap.size)
  (h:∀ v' w',w'.ownsRow base e size v' (n+m) (xs++news)→w.grownBy w' v.ownBlock→(v'=.slice none 0 0↔v=.slice none 0 0∧m=0)→(v'.ownBlock=v.ownBlock∨v'.ownBlock=some w.heap.size)→K (a.put op.dst v') w'):op.wp P a w K Q:=by
 obtain ⟨v',w',hr,h2,h3,h4,h5⟩:=run_append_own_at (P:=P) w base t op.type e i z size bytes ht hi hz hsize hby hzs hsz v n xs hown ad m c news hl hnews h1 h63 hbytes hbase;unfold Oper.wp;simp [execOp,ho,resolve,invoke,builtin,hs,hx,hr,Result.andThen];exact h v' w' h2 h3 h4 h5
theorem TkI.sent {G:TG} {kb:Nat} {y:Mte} {ps:List Pcl} {w4 w5:World} {q:Pcl} {ra:OA} {rc g8 q8:Nat} (h:TkI G kb y ps w4) (hsb:Blk G.sb #[.slice ra ps.length rc] 33 w4) (hrow:w4.ownsRow G.B0 54 7 (.slice ra ps.length rc) ps.length (Bg ps))
  (hown:w5.ownsRow G.B0 54 7 (.slice (some ⟨g8,0,none⟩) (ps.length+1) q8) (ps.length+1) (Bg ps++Di q)) (hgr:w4.grownBy w5 (Value.slice ra ps.length rc).ownBlock)
  (hblk:(Value.slice (some ⟨g8,0,none⟩) (ps.length+1) q8).ownBlock=(Value.slice ra ps.length rc).ownBlock∨(Value.slice (some ⟨g8,0,none⟩) (ps.length+1) q8).ownBlock=some w4.heap.size) :
  Blk G.sb #[.slice ra ps.length rc] 33 w5∧(∀ g,g<w4.heap.size→G.B0≤g→RowNe G g w4→w5.heap[g]?=w4.heap[g]?)∧TkI G kb y (ps++[q]) (w5.setCell ⟨G.sb,0,none⟩ (.slice (some ⟨g8,0,none⟩) (ps.length+1) q8))∧Ke G w4 (w5.setCell ⟨G.sb,0,none⟩ (.slice (some ⟨g8,0,none⟩) (ps.length+1) q8)):=by
 have oo:=h.ord;obtain ⟨o1,o2,o3,o4,o5,o6,o7,o8⟩:=oo;have hbig:=h.big;have hsz:=hgr.size;have hob:∀ b,(Value.slice ra ps.length rc).ownBlock=some b→G.B0≤b∧b<w4.heap.size:=fun b e=>hrow.lt b e
 have klo:∀ b,b<G.B0→w5.heap[b]?=w4.heap[b]?:=fun b hb=>hgr.block b (by omega) (fun e=>by have:=(hob b e.symm).1;omega)
 have kst:∀ b,b≠G.sb→(w5.setCell ⟨G.sb,0,none⟩ (.slice (some ⟨g8,0,none⟩) (ps.length+1) q8)).heap[b]?=w5.heap[b]?:=fun b hb=>Below.heap_setCell w5 ⟨G.sb,0,none⟩ _ b hb
 have kne:∀ g,g<w4.heap.size→RowNe G g w4→(Value.slice ra ps.length rc).ownBlock≠some g:=fun g _ hr e=>by
  cases ra with
  | none=>cases e
  | some ad =>
   obtain ⟨b,o,s⟩:=ad;have e2:b=g:=Option.some.inj e;subst e2;exact hr _ _ _ (hsb.cell (o:=0) rfl) o s rfl
 have k5:∀ g,g<w4.heap.size→G.B0≤g→RowNe G g w4→w5.heap[g]?=w4.heap[g]?:=fun g h1 _ h3=>hgr.block g h1 (fun e=>kne g h1 h3 e.symm)
 have hs5:Blk G.sb #[.slice ra ps.length rc] 33 w5:=(klo _ o8).trans hsb;have hs6:Blk G.sb #[.slice (some ⟨g8,0,none⟩) (ps.length+1) q8] 33 (w5.setCell ⟨G.sb,0,none⟩ (.slice (some ⟨g8,0,none⟩) (ps.length+1) q8)):=hs5.set 0 _;have k6:∀ b,b<G.B0→b≠G.sb→(w5.setCell ⟨G.sb,0,none⟩ (.slice (some ⟨g8,0,none⟩) (ps.length+1) q8)).heap[b]?=w4.heap[b]?:=fun b h1 h2=>(kst b h2).trans (klo b h1)
 obtain ⟨n1,D1,e1,t1⟩:=h.M1;obtain ⟨n2,D2,e2,q2,t2⟩:=h.M2;obtain ⟨n3,D3,e3,q3,t3⟩:=h.M3;obtain ⟨n4,D4,e4,q4,t4⟩:=h.M4;have hg8:G.B0≤g8:=(hown.lt g8 rfl).1;have hsz6:(w5.setCell ⟨G.sb,0,none⟩ (.slice (some ⟨g8,0,none⟩) (ps.length+1) q8)).heap.size=w5.heap.size:=Al [.slice (some ⟨g8,0,none⟩) (ps.length+1) q8] 0 w5;refine ⟨hs5,k5,⟨(k6 _ (by omega) (by omega)).trans h.hP,⟨n1,D1,Bt e1 (k6 _ (by omega) (by omega)),t1⟩,⟨n2,D2,Bt e2 (k6 _ (by omega) (by omega)),q2,t2⟩,⟨n3,D3,Bt e3 (k6 _ (by omega) (by omega)),q3,t3⟩,⟨n4,D4,Bt e4 (k6 _ (by omega) (by omega)),q4,t4⟩,h.ok,h.s5,h.p5,h.ord,(Ck (k6 _ (by omega) (by omega))).trans h.nmc,⟨some ⟨g8,0,none⟩,q8,?_,?_⟩,by rw [hsz6];omega,?_⟩,⟨by rw [hsz6];exact hsz,fun g h1 h2 h3=>⟨(kst g (by omega)).trans (k5 g h2 h1 h3),fun a n c hc o s ea=>?_⟩⟩⟩
 ·rw [List.length_append];exact hs6
 ·rw [List.length_append,Eg]
  have h9:Bg [q]=Di q:=List.append_nil _;rw [h9];exact Be hown (fun b o sp l c e=>by cases e;exact kst _ (by omega))
 ·exact (h.hB.grown hgr h.hB.size (fun j hj=>by have:=(hob j hj).1;omega)).setCell (p:=⟨G.sb,0,none⟩) (show G.W0.heap.size≤G.sb by omega) _
 ·rw [hs6.cell (o:=0) (v:=.slice (some ⟨g8,0,none⟩) (ps.length+1) q8) rfl] at hc
  have e2:a=some ⟨g8,0,none⟩:=by injection (Option.some.inj hc) with e3;exact e3.symm
  rw [e2] at ea;have e4:g8=g:=by injection (Option.some.inj ea)
  subst e4;rcases hblk with e5 | e5
  ·exact kne g8 h2 h3 e5.symm
  ·have:g8=w4.heap.size:=Option.some.inj e5
   omega
end Go.Proofs.YtkiloaiffopllaaGreat
