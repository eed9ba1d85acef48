import Derived.Test.YtpeajnkkdioflaaGreatJ27
set_option maxHeartbeats 2000000
set_option maxRecDepth 100000
namespace Go.Proofs.YtpeajnkkdioflaaGreat
open Go.RowKit
structure PsAt (w:World) (p g c:Nat) (L:List (List UInt8)) (i:Nat) (bad:Bool):Prop where
 c0:w.cell? ⟨p,0,none⟩=some (.slice (some ⟨g,0,none⟩) L.length c)
 c1:w.cell? ⟨p,1,none⟩=some (.int .i64 i)
 c2:w.cell? ⟨p,2,none⟩=some (.bool bad)
 f1:w.frozen? ⟨p,1,none⟩=false
 f2:w.frozen? ⟨p,2,none⟩=false
 ne:g≠p
 lt:g<w.heap.size
 row:∀ j l,L[j]?=some l→w.cell? ⟨g,j,none⟩=some (.string (P.bts l))
theorem PsAt.below {w w':World} {p g c:Nat} {L:List (List UInt8)} {i:Nat} {b:Bool} (h:PsAt w p g c L i b) (hb:Below w.heap.size w w'):PsAt w' p g c L i b:=by
 have hp:p<w.heap.size:=block_lt_of_cell h.c0
 exact ⟨(hb.cell (p:=⟨p,0,none⟩) hp).trans h.c0,(hb.cell (p:=⟨p,1,none⟩) hp).trans h.c1,(hb.cell (p:=⟨p,2,none⟩) hp).trans h.c2,(hb.frozen (p:=⟨p,1,none⟩) hp).trans h.f1,(hb.frozen (p:=⟨p,2,none⟩) hp).trans h.f2,h.ne,Nat.lt_of_lt_of_le h.lt hb.size,
  fun j l hj=>(hb.cell (p:=⟨g,j,none⟩) h.lt).trans (h.row j l hj)⟩
theorem PsAt.drew {w:World} {p g c:Nat} {L:List (List UInt8)} {i:Nat} {b:Bool} (h:PsAt w p g c L i b):PsAt w.drew p g c L i b:=⟨h.c0,h.c1,h.c2,h.f1,h.f2,h.ne,h.lt,h.row⟩
theorem PsAt.plt {w:World} {p g c:Nat} {L:List (List UInt8)} {i:Nat} {b:Bool} (h:PsAt w p g c L i b):p<w.heap.size:=block_lt_of_cell h.c0
theorem Iw {w:World} {p g o j:Nat} {v:Value} (h:g≠p):(w.setCell ⟨p,o,none⟩ v).cell? ⟨g,j,none⟩=w.cell? ⟨g,j,none⟩ :=
 World.cell?_of_block (w:=w) (a:=⟨g,j,none⟩) (Below.heap_setCell w ⟨p,o,none⟩ v g h)
theorem PsAt.at {w:World} {p g c:Nat} {L:List (List UInt8)} {i:Nat} {b:Bool} (h:PsAt w p g c L i b):PsAt (w.setCell ⟨p,1,none⟩ (.int .i64 ((i:Int)+1))) p g c L (i+1) b:=by
 obtain ⟨c0,c1,c2,f1,f2,ne,lt,row⟩:=h;refine ⟨by simp [go_sem,c0],by simp [go_sem,c1],by simp [go_sem,c2],by simp [go_sem,f1],by simp [go_sem,f2],ne,by simpa [World.setCell] using lt,fun j l hj=>(Iw ne).trans (row j l hj)⟩
theorem PsAt.bad {w:World} {p g c:Nat} {L:List (List UInt8)} {i:Nat} {b:Bool} (h:PsAt w p g c L i b):PsAt (w.setCell ⟨p,2,none⟩ (.bool true)) p g c L i true:=by
 obtain ⟨c0,c1,c2,f1,f2,ne,lt,row⟩:=h;refine ⟨by simp [go_sem,c0],by simp [go_sem,c1],by simp [go_sem,c2],by simp [go_sem,f1],by simp [go_sem,f2],ne,by simpa [World.setCell] using lt,fun j l hj=>(Iw ne).trans (row j l hj)⟩
theorem iA (a b:List UInt8):((P.bts a).toList == (P.bts b).toList)=decide (a=b):=by
 rw [ByteArray.toList_eq,ByteArray.toList_eq,Bool.eq_iff_iff];simp [P.bts]
theorem gS (s:UInt8) (L:List (List UInt8)) (i:Nat):(P.tk s (L.drop i)).isSome=(match L[i]? with | some l=>decide (l=[s]) | none=>false):=by
 by_cases h:i<L.length
 ·rw [List.drop_eq_getElem_cons h,List.getElem?_eq_getElem h]
  by_cases e:L[i]=[s]
  ·simp [P.tk,e]
  ·simp [P.tk,e]
 ·rw [List.drop_eq_nil_of_le (by omega),List.getElem?_eq_none (by omega)]
  rfl
theorem kE (p g c:Nat) (L:List (List UInt8)) (i:Nat) (b:Bool) (s:UInt8) (w:World) (h:PsAt w p g c L i b) (hi:i≤L.length) :
  Calls Tryz.prog 160 #[.pointer (some ⟨p,0,none⟩),.string ⟨#[s]⟩] w fun e w'=>e=.returned (.bool (P.tk s (L.drop i)).isSome)∧w'=w.drew:=by
 have HP:Hid (PsAt w p g c L i b):=h;obtain ⟨c0,c1,c2,_,_,_,_,row⟩:=h;rw [gS];by_cases hlt:i<L.length
 ·have r0:=row i _ (List.getElem?_eq_getElem hlt)
  have i0:(0:Int)≤(i:Int):=by omega
  have i1:(i:Int)<(L.length:Int):=by omega
  have HE:Hid ((match L[i]? with | some l=>decide (l=[s]) | none=>false)=decide (L[i]=[s])):=by rw [List.getElem?_eq_getElem hlt];rfl
  rw [HE.out];clear row HE c2;have HB:Hid (((P.bts L[i]).toList == (⟨#[s]⟩:ByteArray).toList)=decide (L[i]=[s])):=iA L[i] [s];generalize P.bts L[i]=T at *;go_enter Tryz.func160,Tryz.ntmps160;go_wp2_with fail
  go_region
  go_wp2_with fail;go_ret;exact ⟨Ae (by have:=HB.out;simpa using this),rfl⟩
 ·have HE:Hid ((match L[i]? with | some l=>decide (l=[s]) | none=>false)=false):=by rw [List.getElem?_eq_none (by omega)];rfl
  rw [HE.out];have i1:¬ (i:Int)<(L.length:Int):=by omega
  clear row HE c2;go_enter Tryz.func160,Tryz.ntmps160;go_wp2_with fail
  go_region
  go_wp2_with fail;go_ret;exact ⟨rfl,rfl⟩
theorem Gc (p g c:Nat) (L:List (List UInt8)) (i:Nat) (b:Bool) (s:UInt8) (w:World) (h:PsAt w p g c L i b) (hi:i≤L.length) (hl:L.length≤200) :
  Calls Tryz.prog 141 #[.pointer (some ⟨p,0,none⟩),.string ⟨#[s]⟩] w fun e w'=>∃ k,e=.returned (.bool (P.tk s (L.drop i)).isSome)∧i≤k∧k≤L.length∧L.drop k=(P.tk s (L.drop i)).getD (L.drop i)∧((P.tk s (L.drop i)).isSome=true→k=i+1)∧((P.tk s (L.drop i)).isSome=false→k=i)∧PsAt w' p g c L k b∧But p w.heap.size w w':=by
 have HP:Hid (PsAt w p g c L i b):=h;clear h;go_enter Tryz.func141,Tryz.ntmps141;go_wp2_with fail;refine (kE p g c L i b s _ HP.out hi).mono ?_;rintro e w1 ⟨rfl,rfl⟩;have H1:Hid (PsAt w.drew p g c L i b):=HP.out.drew;have HB:Hid (But p w.heap.size w w.drew):=(But.refl _ _ _).drew;generalize w.drew=w1 at *
 cases hT:P.tk s (L.drop i) with
 | none =>
  have HT:Hid (P.tk s (L.drop i)=none):=hT;clear hT;go_wp2_with fail;go_ret;exact ⟨i,(by rw [HT.out];rfl),Nat.le_refl _,hi,(by rw [HT.out];rfl),(fun h=>by rw [HT.out] at h;cases h),(fun _=>rfl),H1.out,HB.out⟩
 | some r =>
  have hlt:i<L.length:=by
   have:=P.tk_some hT;have h2:(L.drop i).length=r.length+1:=by rw [this];rfl
   rw [List.length_drop] at h2;omega
  have HR:Hid (L.drop (i+1)=r):=by
   have h3:=P.tk_some hT;rw [List.drop_eq_getElem_cons hlt] at h3;injection h3
  have HT:Hid (P.tk s (L.drop i)=some r):=hT;clear hT;obtain ⟨c0,c1,c2,f1,f2,_,_,_⟩:=H1.out;go_wp2_with fail;go_ret;exact ⟨i+1,(by rw [HT.out];rfl),by omega,by omega,(by rw [HT.out,HR.out];rfl),(fun _=>rfl),(fun h=>by rw [HT.out] at h;cases h),H1.out.at,HB.out.set _ _⟩
theorem Sg {L:List (List UInt8)} {i:Nat} (h:i<L.length) (e:P.nmB L[i]=true):P.nm (L.drop i)=some (L[i],L.drop (i+1)):=by
 rw [List.drop_eq_getElem_cons h];simp [P.nm,e]
theorem Kt {L:List (List UInt8)} {i:Nat} (h:∀ hi:i<L.length,P.nmB L[i]=false):P.nm (L.drop i)=none:=by
 by_cases hi:i<L.length
 ·rw [List.drop_eq_getElem_cons hi]
  simp [P.nm,h hi]
 ·rw [List.drop_eq_nil_of_le (by omega)]
  rfl
theorem Rq (p g c:Nat) (L:List (List UInt8)) (i:Nat) (w:World) (h:PsAt w p g c L i false) (hi:i≤L.length) (hl:L.length≤200) (hz:∀ l∈L,l.length≤200) :
  Calls Tryz.prog 164 #[.pointer (some ⟨p,0,none⟩)] w fun e w' =>
   (∃ n,P.nm (L.drop i)=some (n,L.drop (i+1))∧i<L.length∧e=.returned (.string (P.bts n))∧PsAt w' p g c L (i+1) false∧But p w.heap.size w w') ∨
   (P.nm (L.drop i)=none∧e=.returned (.string ⟨#[]⟩)∧PsAt w' p g c L i true∧But p w.heap.size w w'):=by
 have HP:Hid (PsAt w p g c L i false):=h;obtain ⟨c0,c1,c2,f1,f2,_,_,row⟩:=h;by_cases hlt:i<L.length
 ·have r0:=row i _ (List.getElem?_eq_getElem hlt)
  have i0:(0:Int)≤(i:Int):=by omega
  have i1:(i:Int)<(L.length:Int):=by omega
  have hsz:(P.bts L[i]).size≤maxLen:=by
   have:=hz L[i] (List.getElem_mem hlt);unfold maxLen P.bts;simp [ByteArray.size];omega
  have HQ:Hid (P.nameOk (P.bts L[i])=P.nmB L[i]):=P.nmB_eq _;have HY:Hid (P.nmB L[i]=true→P.nm (L.drop i)=some (L[i],L.drop (i+1))):=Sg hlt;have HN:Hid (P.nmB L[i]=false→P.nm (L.drop i)=none):=fun e=>Kt (fun _=>e)
  have k0:=cell_regrown c0;have k1:=cell_regrown c1;have k2:=cell_regrown r0;clear row c2
  cases hq:P.nmB L[i] with
  | true =>
   have HY':Hid (P.nm (L.drop i)=some (L[i],L.drop (i+1))):=HY.out hq;have cE:∀ d os,Calls Tryz.prog 42 #[.string (P.bts L[i])] (Sort.grow (redrawn w d) os) fun e w''=>e=.returned (.bool true)∧∃ p:Regrown,w''=Sort.grow (redrawn w p.d) p.os:=fun d os=>(Be (P.bts L[i]) _ hsz).mono (by rintro e w' ⟨rfl,rfl⟩;exact ⟨by rw [HQ.out,hq],⟨d,os⟩,rfl⟩)
   clear hq HY HN HQ hz hsz c0 c1 r0 f1 f2;generalize hT:P.bts L[i]=T at *;have HT:Hid (P.bts L[i]=T):=hT;clear hT;go_enter Tryz.func164,Tryz.ntmps164;go_wp2_with fail;refine wp_region_quiet_below (by kernel_rfl) (by kernel_rfl) ?_
   repeat (quiet_step (first | exact cE _ _))
   refine wpQuiet_nil ?_;intro wq hw';obtain ⟨⟨dq,osq⟩,hw''⟩:=hw';have hbq:Below w.heap.size w wq:=by
    simp only [] at hw'';rw [hw''];exact below_regrown w dq osq
   have G:Hid (PsAt wq p g c L i false):=HP.out.below hbq;have GB:Hid (But p w.heap.size w wq):=But.of_below hbq;clear hw'' hbq cE k0 k1 k2;have G1:Hid (PsAt (wq.setCell ⟨p,1,none⟩ (.int .i64 ((i:Int)+1))) p g c L (i+1) false):=G.out.at;have r1:(wq.setCell ⟨p,1,none⟩ (.int .i64 ((i:Int)+1))).cell? ⟨g,i,none⟩=some (.string T):=by rw [← HT.out];exact G1.out.row i _ (List.getElem?_eq_getElem hlt)
   obtain ⟨d0,d1,d2,e1,e2,_,_,_⟩:=G.out;obtain ⟨x0,x1,x2,_,_,_,_,_⟩:=G1.out;go_upto_region 5 with fail;have GB1:Hid (But p w.heap.size w (wq.setCell ⟨p,1,none⟩ (.int .i64 ((i:Int)+1)))):=GB.out.set _ _;clear d0 d1 d2 e1 e2;generalize wq.setCell ⟨p,1,none⟩ (.int .i64 ((i:Int)+1))=w8 at *
   go_region
   go_wp2_with fail;go_ret;exact .inl ⟨_,HY'.out,hlt,by rw [HT.out];rfl,G1.out.drew,GB1.out.drew⟩
  | false =>
   have HN':Hid (P.nm (L.drop i)=none):=HN.out hq;have cE:∀ d os,Calls Tryz.prog 42 #[.string (P.bts L[i])] (Sort.grow (redrawn w d) os) fun e w''=>e=.returned (.bool false)∧∃ p:Regrown,w''=Sort.grow (redrawn w p.d) p.os:=fun d os=>(Be (P.bts L[i]) _ hsz).mono (by rintro e w' ⟨rfl,rfl⟩;exact ⟨by rw [HQ.out,hq],⟨d,os⟩,rfl⟩)
   clear hq HY HN HQ hz hsz c0 c1 r0 f1 f2;generalize P.bts L[i]=T at *;go_enter Tryz.func164,Tryz.ntmps164;go_wp2_with fail;refine wp_region_quiet_below (by kernel_rfl) (by kernel_rfl) ?_
   repeat (quiet_step (first | exact cE _ _))
   refine wpQuiet_nil ?_;intro wq hw';obtain ⟨⟨dq,osq⟩,hw''⟩:=hw';have hbq:Below w.heap.size w wq:=by
    simp only [] at hw'';rw [hw''];exact below_regrown w dq osq
   have G:Hid (PsAt wq p g c L i false):=HP.out.below hbq;have GB:Hid (But p w.heap.size w wq):=But.of_below hbq;clear hw'' hbq cE k0 k1 k2;obtain ⟨d0,d1,d2,e1,e2,_,_,_⟩:=G.out;go_wp2_with fail;go_ret;exact .inr ⟨HN'.out,rfl,G.out.bad,GB.out.set _ _⟩
 ·have HN':Hid (P.nm (L.drop i)=none):=Kt (fun h=>absurd h hlt)
  have i1:¬ (i:Int)<(L.length:Int):=by omega
  clear row hz;go_enter Tryz.func164,Tryz.ntmps164;go_wp2_with fail
  go_region
  have G:Hid (PsAt w.drew p g c L i false):=HP.out.drew;have GB:Hid (But p w.heap.size w w.drew):=(But.refl _ _ _).drew;clear c0 c1 c2 f1 f2;generalize w.drew=wq at *;obtain ⟨d0,d1,d2,e1,e2,_,_,_⟩:=G.out;go_wp2_with fail;go_ret;exact .inr ⟨HN'.out,rfl,G.out.bad,GB.out.set _ _⟩
def ndv (n:P.Nd):List Value:=[.int .i64 n.kind,.string n.name,.string n.value,.int .i64 n.kids]
def Bz (ns:List P.Nd):List Value:=ns.flatMap ndv
theorem jP:Bz []=[]:=rfl
theorem Gh (a b:List P.Nd):Bz (a++b)=Bz a++Bz b:=by simp [Bz]
theorem Ij:∀ ns:List P.Nd,(Bz ns).length=ns.length*4
 | []=>rfl
 | n::r=>by
  have:=Ij r;simp [Bz,ndv] at this ⊢;omega
theorem Ip:∀ (ns:List P.Nd),∀ u∈Bz ns,u.oneCell'=true
 | [],u,h=>by cases h
 | n::r,u,h=>by
  rw [show n::r=[n]++r from rfl,Gh] at h;rcases List.mem_append.1 h with h | h
  ·simp [Bz,ndv] at h
   rcases h with rfl | rfl | rfl | rfl <;> rfl
  ·exact Ip r u h
def NdRow (w:World) (B:Nat) (v:Value) (ns:List P.Nd):Prop:=∃ g cap,v=.slice (some ⟨g,0,none⟩) ns.length cap∧B≤g∧g<w.heap.size∧w.rangeAt g 0 (Bz ns)
theorem NdRow.but {w w':World} {B B' p:Nat} {v:Value} {ns:List P.Nd} (h:NdRow w B v ns) (hb:But p B' w w') (hB:w.heap.size≤B') (hp:p<B):NdRow w' B v ns:=by
 obtain ⟨g,cap,h1,h2,h3,h4⟩:=h;refine ⟨g,cap,h1,h2,Nat.lt_of_lt_of_le h3 hb.size,fun j u hj=>?_⟩;exact (World.cell?_of_block (w:=w) (a:=⟨g,0+j,none⟩) (hb.block g (by omega) (by omega))).trans (h4 j u hj)
theorem NdRow.below {w w':World} {B B':Nat} {v:Value} {ns:List P.Nd} (h:NdRow w B v ns) (hb:Below B' w w') (hB:w.heap.size≤B'):NdRow w' B v ns:=by
 obtain ⟨g,cap,h1,h2,h3,h4⟩:=h;refine ⟨g,cap,h1,h2,Nat.lt_of_lt_of_le h3 hb.size,fun j u hj=>?_⟩;exact (hb.cell (p:=⟨g,0+j,none⟩) (show g<B' by omega)).trans (h4 j u hj)
theorem NdRow.mono {w:World} {B B':Nat} {v:Value} {ns:List P.Nd} (h:NdRow w B v ns) (hB:B'≤B):NdRow w B' v ns:=by
 obtain ⟨g,cap,h1,h2,h3,h4⟩:=h;exact ⟨g,cap,h1,by omega,h3,h4⟩
theorem bY {w:World} {B g c:Nat} {e:TypeId} {ns:List P.Nd} (h:w.ownsRow B e 4 (.slice (some ⟨g,0,none⟩) ns.length c) ns.length (Bz ns)):NdRow w B (.slice (some ⟨g,0,none⟩) ns.length c) ns:=by
 refine ⟨g,c,rfl,(h.lt g rfl).1,(h.lt g rfl).2,fun j u hj=>?_⟩;have hlt:=Ad hj;rw [Ij] at hlt;rw [Nat.zero_add];exact (h.cellAt j (by omega)).trans hj
theorem iK:(Tryz.prog.info? 181).map (fun i=>(i.zero,i.size,i.bytes))=some (some (.agg #[.int .i64 0,.string ⟨#[]⟩,.string ⟨#[]⟩,.int .i64 0]),4,48):=by kernel_rfl
theorem Zr (w:World) (n:P.Nd) (T:TypeId):∀ j u,(ndv n)[j]?=some u→(w.alloc (.cells #[.int .i64 n.kind,.string n.name,.string n.value,.int .i64 n.kids] T)).cell? ((⟨w.heap.size,0,none⟩:Addr).add j)=some u:=by
 intro j u hj;rw [Addr.add_mid];have hlt:=Ad hj;have hr:(w.alloc (.cells #[.int .i64 n.kind,.string n.name,.string n.value,.int .i64 n.kids] T)).rangeAt w.heap.size 0 (ndv n):=Aa (by simp) (Aa (by simp) (Aa (by simp) (Aa (by simp) (Aj _ _ _))));exact hr j u hj
theorem iW (n:P.Nd):∀ u∈ndv n,u.oneCell'=true:=fun u hu=>Ip [n] u (by simpa [Bz] using hu)
def PartsAt (w:World) (q:Nat) (Ps:List (List P.Nd)):Prop:=∀ j ns,Ps[j]?=some ns→∃ v,w.cell? ⟨q,j,none⟩=some v∧NdRow w 0 v ns
theorem PartsAt.below {w w':World} {q:Nat} {Ps:List (List P.Nd)} (h:PartsAt w q Ps) (hb:Below w.heap.size w w'):PartsAt w' q Ps:=by
 intro j ns hj;obtain ⟨v,h1,h2⟩:=h j ns hj;exact ⟨v,(hb.cell (p:=⟨q,j,none⟩) (block_lt_of_cell h1)).trans h1,h2.below hb nL⟩
theorem Rb {α:Type}:∀ (Ps:List (List α)) (j:Nat) (x:List α),Ps[j]?=some x→(Ps.take (j+1)).flatten=(Ps.take j).flatten++x
 | [],_,_,h=>by simp at h
 | y::r,0,x,h=>by simp at h;subst h;simp
 | y::r,j+1,x,h=>by
  simp at h;have:=Rb r j x h;simp at this ⊢;rw [this]
theorem aD {α:Type}:∀ (Ps:List (List α)) (j:Nat),(Ps.take j).flatten.length≤Ps.flatten.length
 | [],_=>by simp
 | y::r,0=>by simp
 | y::r,j+1=>by
  have:=aD r j;simp only [List.take_succ_cons,List.flatten_cons,List.length_append];omega
theorem Pa (kind kids:Int) (q:Nat) (Ps:List (List P.Nd)) (w:World) (h:PartsAt w q Ps) (hl:Ps.length≤10) (hf:Ps.flatten.length≤1000) :
  Calls Tryz.prog 142 #[.int .i64 kind,.int .i64 kids,.slice (some ⟨q,0,none⟩) Ps.length Ps.length] w fun e w'=>∃ v,e=.returned v∧NdRow w' w.heap.size v (Ps.flatten++[⟨kind,⟨#[]⟩,⟨#[]⟩,kids⟩])∧Below w.heap.size w w':=by
 obtain ⟨i0,hi0,hz0,hz1,hz2⟩:=info_parts iK;have HP:Hid (PartsAt w q Ps):=h;clear h;go_enter Tryz.func142,Tryz.ntmps142;go_wp2_with fail;go_loopw [7,8] (fun v i wr=>∃ (j g c n:Nat),j≤Ps.length∧i=.int .i64 j∧v=.slice (some ⟨g,0,none⟩) n c∧n≤1000∧Hid ((Ps.take j).flatten.length=n)∧Hid (wr.ownsRow w.heap.size 181 4 (.slice (some ⟨g,0,none⟩) n c) n (Bz (Ps.take j).flatten))∧Hid (Below w.heap.size w wr)) (fun _ i _=>Ps.length - (intOf i).toNat)
 case atStart=>exact ⟨0,w.heap.size,0,0,Nat.zero_le _,rfl,rfl,Nat.zero_le _,by simp;trivial,World.ownsRow_made (base:=w.heap.size) (e:=181) (size:=4) w #[] 0 nL (Nat.zero_le _) rfl,(Below.refl _ _).alloc nL _⟩
 case round =>
  obtain ⟨j,g,c,n,hj,rfl,rfl,hn,HL,HO,HB⟩:=hrel;have hsz:=HB.out.size;by_cases hlt:j<Ps.length
  ·obtain ⟨ns,hns⟩:∃ ns,Ps[j]?=some ns:=⟨Ps[j],List.getElem?_eq_getElem hlt⟩
   obtain ⟨v1,r1,g1,c1,rfl,_,hg1,hr1⟩:=(HP.out.below HB.out) j ns hns;have HF:Hid ((Ps.take (j+1)).flatten=(Ps.take j).flatten++ns):=Rb Ps j ns hns;have hle:Hid (n+ns.length≤1000):=by
    show _≤_
    have h1:=aD Ps (j+1);rw [HF.out,List.length_append,HL.out] at h1;omega
   have HR1:Hid (∀ i u,(Bz ns)[i]?=some u→wr.cell? ((⟨g1,0,none⟩:Addr).add i)=some u):=fun i u hi=>by rw [Addr.add_mid];exact hr1 i u hi
   have hle':=hle.out;clear hns hr1;go_wp2_with (at_builtin;refine wpList_append_own_at _ rfl (.tmp 16) (.tmp 20) 152 rfl w.heap.size 181 i0 _ 4 48 Tryz.underlying152 hi0 hz0 hz1 hz2 rfl (by decide) _ n _ rfl HO.out ⟨g1,0,none⟩ ns.length c1 (Bz ns) rfl (Ij ns) HR1.out (Ip ns) (by unfold maxLen;omega) (by omega) hsz ?_;intro v' w7 hown7 hgrow7 hnil _);rcases hown7.2 with h' | ⟨g2,c2,_,hv2,_⟩
   ·exact absurd (hnil.1 h'.1).1 (fun h=>by cases h)
   subst hv2;have HO2:Hid (w7.ownsRow w.heap.size 181 4 (.slice (some ⟨g2,0,none⟩) (n+ns.length) c2) (n+ns.length) (Bz (Ps.take (j+1)).flatten)):=by
    rw [HF.out,Gh];exact hown7
   have HL2:Hid ((Ps.take (j+1)).flatten.length=n+ns.length):=by rw [HF.out,List.length_append,HL.out];rfl
   have HB2:Hid (Below w.heap.size w w7):=HB.out.grown hgrow7 hsz (fun i hi=>by cases hi;exact (HO.out.lt g rfl).1);clear hown7 hgrow7 hnil;go_wp2_with fail;go_roundw
   case rel=>exact ⟨j+1,g2,c2,n+ns.length,by omega,by go_num,rfl,hle',HL2,HO2,HB2⟩
   case measure=>simp [intOf];omega
  ·have hje:j=Ps.length:=by omega
   have HD:Hid ((Ps.take j).flatten=Ps.flatten):=by rw [hje,List.take_length];rfl
   have HO':Hid (wr.ownsRow w.heap.size 181 4 (.slice (some ⟨g,0,none⟩) n c) n (Bz Ps.flatten)):=by rw [← HD.out];exact HO.out
   have HL':Hid (Ps.flatten.length=n):=by rw [← HD.out];exact HL.out
   have i1:¬ (j:Int)<(Ps.length:Int):=by omega
   clear hje HD HL HO;go_wp2_with (at_builtin;refine wpList_append_own_at _ rfl (.tmp 22) (.tmp 26) 152 rfl w.heap.size 181 i0 _ 4 48 Tryz.underlying152 hi0 hz0 hz1 hz2 rfl (by decide) _ n _ rfl (HO'.out.alloc _) ⟨wr.heap.size,0,none⟩ 1 1 (ndv ⟨kind,⟨#[]⟩,⟨#[]⟩,kids⟩) rfl rfl (Zr _ _ _) (iW _) (by unfold maxLen;omega) (by omega) (by simp;omega) ?_;intro v' w7 hown7 hgrow7 _ _;obtain ⟨g2,c2,rfl⟩:=Ld hown7);have HO2:Hid (w7.ownsRow w.heap.size 181 4 (.slice (some ⟨g2,0,none⟩) (Ps.flatten++[(⟨kind,⟨#[]⟩,⟨#[]⟩,kids⟩:P.Nd)]).length c2) (Ps.flatten++[(⟨kind,⟨#[]⟩,⟨#[]⟩,kids⟩:P.Nd)]).length (Bz (Ps.flatten++[⟨kind,⟨#[]⟩,⟨#[]⟩,kids⟩]))):=by
    rw [Gh,List.length_append,HL'.out];exact hown7
   have HB2:Hid (Below w.heap.size w w7):=(HB.out.alloc hsz _).grown hgrow7 (by simp;omega) (fun i hi=>by cases hi;exact (HO'.out.lt g rfl).1);have hlen:Hid ((Ps.flatten++[(⟨kind,⟨#[]⟩,⟨#[]⟩,kids⟩:P.Nd)]).length=n+1):=by rw [List.length_append,HL'.out];rfl
   clear hown7 hgrow7;go_wp2_with fail;go_ret;refine ⟨_,rfl,?_,HB2.out⟩;have:=bY HO2.out;rw [hlen.out] at this;exact this
end Go.Proofs.YtpeajnkkdioflaaGreat
