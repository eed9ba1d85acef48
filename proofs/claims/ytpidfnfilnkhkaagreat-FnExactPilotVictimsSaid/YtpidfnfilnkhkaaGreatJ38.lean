import Derived.Test.YtpidfnfilnkhkaaGreatJ37
import Derived.Shelf.Slices.SearchI
set_option maxHeartbeats 2000000
set_option maxRecDepth 100000
namespace Go.Proofs.YtpidfnfilnkhkaaGreat
open Go.RowKit Tryz
def qF:Go.Shelf.Ren:={
 f:=λn=>if n=21 then 148 else if n=27 then 175 else if n=28 then 176 else if n=35 then 189 else if n=39 then 207 else if n=25 then 147 else if n=31 then 173 else if n=32 then 174 else if n=37 then 134 else 0,
 t:=λn=>if n=3 then 3 else if n=4 then 4 else if n=22 then 68 else if n=40 then 224 else 0,
 g:=λn=>n}
theorem xE:Lays2.n21 prog qF:={
 mixed:=by kernel_rfl,
 f21:=by kernel_rfl,
 f27:=by kernel_rfl,
 f28:=by kernel_rfl,
 f35:=by kernel_rfl,
 f39:=by kernel_rfl,
 t0:=by kernel_rfl,
 a0:=λw=>by kernel_rfl,
 z0:=λw=>by kernel_rfl,
 v0:=λw=>by kernel_rfl,
 t3:=by kernel_rfl,
 a3:=λw=>by kernel_rfl,
 z3:=λw=>by kernel_rfl,
 v3:=λw=>by kernel_rfl,
 t4:=by kernel_rfl,
 a4:=λw=>by kernel_rfl,
 z4:=λw=>by kernel_rfl,
 v4:=λw=>by kernel_rfl,
 t22:=by kernel_rfl,
 a22:=λw=>by kernel_rfl,
 z22:=λw=>by kernel_rfl,
 v22:=λw=>by kernel_rfl,
 i3:=by kernel_rfl}
theorem bsI:Lays2.n25 prog qF:={
 mixed:=by kernel_rfl,
 f25:=by kernel_rfl,
 f31:=by kernel_rfl,
 f32:=by kernel_rfl,
 f37:=by kernel_rfl,
 t0:=by kernel_rfl,
 a0:=λw=>by kernel_rfl,
 z0:=λw=>by kernel_rfl,
 v0:=λw=>by kernel_rfl,
 t3:=by kernel_rfl,
 a3:=λw=>by kernel_rfl,
 z3:=λw=>by kernel_rfl,
 v3:=λw=>by kernel_rfl,
 t4:=by kernel_rfl,
 a4:=λw=>by kernel_rfl,
 z4:=λw=>by kernel_rfl,
 v4:=λw=>by kernel_rfl,
 t22:=by kernel_rfl,
 a22:=λw=>by kernel_rfl,
 z22:=λw=>by kernel_rfl,
 v22:=λw=>by kernel_rfl,
 t40:=by kernel_rfl,
 a40:=λw=>by kernel_rfl,
 z40:=λw=>by kernel_rfl,
 v40:=λw=>by kernel_rfl}
open Go.Lib Go.Shelf Tryz
theorem izI:(prog.info? 3).map (·.size)=some 1:=by kernel_rfl
theorem yW(b vb n i:Nat)(cs:List Value)(u:Value)(w:World)(hin:i<n)(hs:n<=1000)(hcl:cs.length=n)(hcs:∀j v,cs[j]?=some v->w.cell? ⟨b,j,none⟩=some v)(hvs:w.cell? ⟨vb,0,none⟩=some u)(h1c:∀v∈cs,v.oneCell'=true)(h1v:u.oneCell'=true) :
  Calls prog 148 #[.slice (some ⟨b,0,none⟩) n n,.int .i64 ((i:Nat):Int),.slice (some ⟨vb,0,none⟩) 1 1] w λe w'=>∃G,e=.returned (.slice (some ⟨w.heap.size,0,none⟩) (n+1) G)/\w'.rangeAt w.heap.size 0 (cs.take i++u::cs.drop i)/\w.heap.size<w'.heap.size/\(∀p,w'.frozen? ⟨w.heap.size,p,none⟩=false)/\Below w.heap.size w w':=by
 obtain⟨i0,hi0,hz0,hzs,hzb⟩:=info_parts Fl;have hsz:=izI;have hbw:b<w.heap.size:=block_lt_of_cell (hcs 0 _ (gE (by omega)));have hvw:vb<w.heap.size:=block_lt_of_cell hvs;have hold:(Builtin.firstCells i0.size i (.slice (some ⟨b,0,none⟩) i n)).run prog w.drew=.ok (cs.take i).toArray w.drew:=by
  rw[hzs]
  exact run_firstCells_some (w:=w.drew) 1 i ⟨b,0,none⟩ i n (cs.take i) (by simp;omega) (λj v hj=>by
   have hj2:j<i:=by have:=Ac hj;rw[List.length_take]at this;omega
   rw[List.getElem?_take,if_pos hj2]at hj;rw[Addr.add_lit,Nat.zero_add]
   exact hcs j v hj)
 have hrz:∀ty,(Builtin.append_ #[68,3] ty #[.slice (some ⟨b,0,none⟩) i n,.int .i64 ((n:Int)+1-(i:Int))]).run prog w =
   .ok (.slice (some ⟨w.heap.size,0,none⟩) (n+1) (grownCap w (n+1) n 3)) (w.drew.alloc (.cells ((cs.take i).toArray++Builtin.zeroCells (Value.int .i64 0).cells (n+1-i)++Builtin.zeroCells (Value.int .i64 0).cells (grownCap w (n+1) n 3-(n+1))) 3)):=λty=>by
  have h9:=Lib.run_append_grow_zeros w 68 3 ty 3 i0 _ .i64 .i64 underlying68 underlying3 hi0 hz0 (some ⟨b,0,none⟩) i n (cs.take i) hold (n+1-i) (by omega) (by omega) (by omega) (by omega) (by rw[hzb];omega) (by rw[hzb];exact growslice_fits (by omega) (by omega));rw[show i+(n+1-i)=n+1 by omega,show(((n+1-i:Nat)):Int)=(n:Int)+1-(i:Int) by omega]at h9;exact h9
 obtain⟨G,hG⟩:∃G,G=grownCap w (n+1) n 3:=⟨_,rfl⟩;obtain⟨ROW,hROW⟩:∃ROW:Array Value,ROW=(cs.take i).toArray++Builtin.zeroCells (Value.int .i64 0).cells (n+1-i)++Builtin.zeroCells (Value.int .i64 0).cells (G-(n+1)):=⟨_,rfl⟩;rw[<-hG]at hrz;rw[<-hROW]at hrz;have hGn:n+1<=G:=by rw[hG];exact grownCap_ge w _ _ _
 have hRl:n+1<=ROW.size:=by
  rw[hROW];simp[Builtin.zeroCells,Value.cells];omega
 have hRp:∀(j:Nat)(v:Value),(cs.take i)[j]?=some v->ROW[j]?=some v:=by
  intro j v hj;have hj2:=Ac hj;rw[hROW,Array.append_assoc,Array.getElem?_append_left (by simpa using hj2)];simpa using hj
 obtain⟨W1,hW1⟩:∃W1,W1=w.drew.alloc (.cells ROW 3):=⟨_,rfl⟩;rw[<-hW1]at hrz;have hN:∀j,j<n+1->(W1.cell? ⟨w.heap.size,j,none⟩).isSome=true:=λj hj=>by
  rw[hW1,World.cell?_alloc_at (w:=w.drew) ROW _ w.heap.size j rfl,Array.getElem?_eq_getElem (by omega)];rfl
 have hNp:∀(j:Nat)(v:Value),(cs.take i)[j]?=some v->W1.cell? ⟨w.heap.size,j,none⟩=some v:=λj v hj=>by
  rw[hW1,World.cell?_alloc_at (w:=w.drew) ROW _ w.heap.size j rfl];exact hRp j v hj
 have hNf:∀j,W1.frozen? ⟨w.heap.size,j,none⟩=false:=λj=>by rw[hW1];exact World.frozen?_alloc_at (w:=w.drew) ROW _ w.heap.size j rfl
 have hOb:∀j v,w.cell? ⟨b,j,none⟩=some v->W1.cell? ⟨b,j,none⟩=some v:=λj v h=>by rw[hW1,World.cell?_alloc_past (w:=w.drew) _ b j hbw];exact h
 have hOv:W1.cell? ⟨vb,0,none⟩=some u:=by rw[hW1,World.cell?_alloc_past (w:=w.drew) _ vb 0 hvw];exact hvs
 have hbN:b≠w.heap.size:=by omega
 have hvN:vb≠w.heap.size:=by omega
 have hcpA:∀(W:World),(∀x,W.cell? x=W1.cell? x)->(∀x,W.frozen? x=W1.frozen? x)->∀ty dc,(Builtin.copy_ #[68,68] ty #[.slice (some ⟨w.heap.size,i,none⟩) (n+1-i) dc,.slice (some ⟨vb,0,none⟩) 1 1]).run prog W=.ok (goInt 1) (W.setCells w.heap.size i [u]):=λW hWc hWf ty dc=>by
  have h9:=Kr (P:=prog) W 68 68 ty 3 1 w.heap.size i (n+1-i) dc ⟨vb,0,none⟩ 1 1 [u] underlying68 hsz (by rw[show Nat.min 1 (n+1-i)=1 from Nat.min_eq_left (by omega)];rfl)
   (λj v hj=>by
    have hj0:j=0:=by have:=Ac hj;simpa using this
    subst hj0;cases hj
    rw[Addr.add_lit,hWc]
    exact hOv)
   (λj hj=>by rw[hWc];exact hN _ (by simp at hj;omega)) (λj hj=>by rw[hWf];exact hNf _) (λv hv=>by rw[List.mem_singleton.1 hv];exact h1v)
  rw[show Nat.min 1 (n+1-i)=1 from Nat.min_eq_left (by omega)]at h9;exact h9
 have hcpB:∀(W:World),(∀x,W.cell? x=(W1.setCells w.heap.size i [u]).cell? x)->(∀x,W.frozen? x=(W1.setCells w.heap.size i [u]).frozen? x)->∀ty dc sc,(Builtin.copy_ #[68,68] ty #[.slice (some ⟨w.heap.size,i+1,none⟩) (n-i) dc,.slice (some ⟨b,i,none⟩) (n-i) sc]).run prog W=.ok (goInt ((n-i:Nat):Int)) (W.setCells w.heap.size (i+1) (cs.drop i)):=λW hWc hWf ty dc sc=>by
  have h9:=Kr (P:=prog) W 68 68 ty 3 1 w.heap.size (i+1) (n-i) dc ⟨b,i,none⟩ (n-i) sc (cs.drop i) underlying68 hsz (by rw[List.length_drop,hcl,show Nat.min (n-i) (n-i)=n-i from Nat.min_self _,Nat.mul_one])
   (λj v hj=>by
    rw[List.getElem?_drop]at hj;rw[Addr.add_lit,hWc,World.cell?_setCells_out _ _ _ _ _ (λh _=>absurd h hbN)]
    exact hOb _ v (hcs _ v hj))
   (λj hj=>by rw[List.length_drop]at hj;rw[hWc];exact isSome_setCells _ _ _ _ (λt ht=>hN _ (by simp at ht;omega)) _ (hN _ (by omega)))
   (λj hj=>by rw[hWf,World.frozen?_setCells];exact hNf _) (λv hv=>h1c v (List.mem_of_mem_drop hv))
  rw[show Nat.min (n-i) (n-i)=n-i from Nat.min_self _]at h9;exact h9
 have hG63:G<=9223372036854775807:=by
  have:=grownCap_le_maxLen w (n+1) n 3 (by unfold maxLen;omega);rw[<-hG]at this;unfold maxLen at this;omega
 subst hW1;have hE1:∀x,((w.alloc (.cells ROW 3)).drew).cell? x=(w.drew.alloc (.cells ROW 3)).cell? x:=λx=>rfl
 have hE2:∀x,((w.alloc (.cells ROW 3)).drew).frozen? x=(w.drew.alloc (.cells ROW 3)).frozen? x:=λx=>rfl
 have hF1:∀x,(((w.alloc (.cells ROW 3)).drew.setCells w.heap.size i [u]).drew).cell? x=((w.drew.alloc (.cells ROW 3)).setCells w.heap.size i [u]).cell? x:=λx=>rfl
 have hF2:∀x,(((w.alloc (.cells ROW 3)).drew.setCells w.heap.size i [u]).drew).frozen? x=((w.drew.alloc (.cells ROW 3)).setCells w.heap.size i [u]).frozen? x:=λx=>rfl
 have mixed:prog.follows Departure.mixedOrders=true:=by kernel_rfl
 have hw1:IntKind.i64.wrap 1=1:=by rw[IntKind.wrap_i64];omega
 have x1:¬(G=i):=by omega
 have x2:¬(G=i+1):=by omega
 have x3:¬(n=i):=by omega
 have x4:¬((i:Int)=(n:Int)):=by omega
 have x5:(i:Int)<=(n:Int):=by omega
 have x6:(n:Int)<(n:Int)+1:=by omega
 have x7:IntKind.i64.wrap ((n:Int)+1)=(n:Int)+1:=by rw[IntKind.wrap_i64];omega
 have x8:IntKind.i64.wrap ((n:Int)+1-(i:Int))=(n:Int)+1-(i:Int):=by rw[IntKind.wrap_i64];omega
 have x9:IntKind.i64.wrap ((i:Int)+1)=(i:Int)+1:=by rw[IntKind.wrap_i64];omega
 have y1:(i:Int)<=((n+1:Nat):Int):=by omega
 have y2:(i:Int)+1<=((n+1:Nat):Int):=by omega
 have y3:(i:Int)+1<=(n:Int)+1:=by omega
 have y4:(i:Int)<=(n:Int)+1:=by omega
 have y5:(0:Int)<=(i:Int)+1:=by omega
 clear hold hG hROW;go_enter func148,ntmps148
 go_wp2_with(first
  |(at_builtin;refine Lib.wpList_append_run _ rfl _ _ _ _ rfl _ _ rfl rfl _ _ (hrz _) ?_)
  |(at_builtin;refine wpList_copy_runI _ rfl _ _ 68 68 rfl _ _ rfl rfl (hcpA _ hE1 hE2 _ _) ?_))
 go_region_law_o (refine step_copy_runI rfl _ _ 68 68 rfl (.slice (some ⟨w.heap.size,i+1,none⟩) (n-i) (G-(i+1))) (.slice (some ⟨b,i,none⟩) (n-i) (n-i)) (by simp[Act.eval,Act.put]) (by simp[Act.eval,Act.put]) (hcpB _ hF1 hF2 3 (G-(i+1)) (n-i)) ?_)
 go_wp2
 go_ret;have hbl:Below w.heap.size w ((((w.alloc (.cells ROW 3)).drew.setCells w.heap.size i [u]).drew).setCells w.heap.size (i+1) (cs.drop i)):=Aj nL _ _ _ (Aj nL _ _ _ ((Below.refl _ w).alloc nL _).drew).drew;refine⟨G,rfl,?_,?_,?_,hbl⟩
 .have hR1:(((w.alloc (.cells ROW 3)).drew.setCells w.heap.size i [u]).drew).rangeAt w.heap.size i [u]:=World.rangeAt_setCells_same _ w.heap.size i [u] (λj hj=>⟨hN _ (by simp at hj;omega),hNf _⟩)
  have hR2:=World.rangeAt_setCells_same (((w.alloc (.cells ROW 3)).drew.setCells w.heap.size i [u]).drew) w.heap.size (i+1) (cs.drop i) (λj hj=>⟨by rw[hF1];exact isSome_setCells _ _ _ _ (λt ht=>hN _ (by simp at ht;omega)) _ (hN _ (by rw[List.length_drop]at hj;omega)),by rw[hF2,World.frozen?_setCells];exact hNf _⟩);intro j v hj;have hti:(cs.take i).length=i:=by rw[List.length_take];omega
  by_cases h1:j<i
  .rw[List.getElem?_append_left (by omega)]at hj
   rw[World.cell?_setCells_out _ _ _ _ _ (λ_ _=>Or.inl (by show 0+j<i+1;omega)),hF1,World.cell?_setCells_out _ _ _ _ _ (λ_ _=>Or.inl (by show 0+j<i;omega)),Nat.zero_add];exact hNp j v hj
  .by_cases h2:j=i
   .subst h2
    rw[List.getElem?_append_right (by omega),hti,Nat.sub_self]at hj;rw[World.cell?_setCells_out _ _ _ _ _ (λ_ _=>Or.inl (by show 0+j<j+1;omega)),Nat.zero_add];have:=hR1 0 v hj;simpa using this
   .rw[List.getElem?_append_right (by omega),hti,show j-i=(j-(i+1))+1 by omega,List.getElem?_cons_succ]at hj
    have:=hR2 (j-(i+1)) v hj
    rwa [show i+1+(j-(i+1))=0+j by omega]at this
 .rw[Az]
  show w.heap.size<(((w.alloc (.cells ROW 3)).drew.setCells w.heap.size i [u])).heap.size
  rw[Az];simp
 .intro p
  rw[World.frozen?_setCells,hF2,World.frozen?_setCells];exact hNf p
end Go.Proofs.YtpidfnfilnkhkaaGreat
namespace Go.Proofs.YtpidfnfilnkhkaaGreat
open Go.RowKit Go.Shelf Tryz
theorem mA{e:Nat}:∀{l:List Nat},l.Pairwise (·<·)->e∉l->Fv e l=l.take (l.countP (·<e))++e::l.drop (l.countP (·<e))
 |[],_,_=>rfl
 | a::l,h,he=>by
  rw[List.pairwise_cons]at h;unfold Fv;by_cases q:a<e
  .rw[if_pos q,List.countP_cons_of_pos (by simpa using q),List.take_succ_cons,List.drop_succ_cons,mA h.2 (λk=>he (List.mem_cons_of_mem _ k))]
   rfl
  .have hz:(a::l).countP (·<e)=0:=by
    rw[List.countP_eq_zero];intro b hb;rcases List.mem_cons.1 hb with rfl|hb
    .simpa using q
    .have:=h.1 b hb
     simp;omega
   rw[if_neg q,hz];rfl
theorem Kk{base g:Nat}{w:World}{l:List Nat}(hr:w.rangeAt g 0 (inV (plI l)))(hf:∀p,w.frozen? ⟨g,p,none⟩=false)(hg:g<w.heap.size)(hb:base<=g)(hm:l.length<=1048576):SliceC IntC 1 base w (some ⟨g,0,none⟩) (plI l):=by
 refine⟨by simp;unfold maxLen;omega,.inr ⟨g,0,rfl,⟨hb,λ_ p=>hf p⟩,hg,λj x hj=>?_⟩⟩;have h1:=hr j (.int .i64 x) (by rw[List.getElem?_map,hj];rfl);show _=_
 simpa using h1
theorem xH{e:Nat}{l:List Nat}(h:l.Pairwise (·<·))(he:e∉l):inV (plI (Fv e l))=(inV (plI l)).take (l.countP (·<e))++.int .i64 ((e:Nat):Int)::(inV (plI l)).drop (l.countP (·<e)):=by
 rw[mA h he];simp[inV,plI,List.map_take,List.map_drop]
theorem zX{w:World}{g:Nat}{cur:Array Value}{t:TypeId}(h:w.heap[g]?=some (Obj.cells cur t (0,0)))(p:Nat):w.frozen? ⟨g,p,none⟩=false:=by
 simp[World.frozen?,h]
theorem BD{w:World}{g:Nat}{cur:Array Value}{t:TypeId}{f:Nat×Nat}(h:w.heap[g]?=some (Obj.cells cur t f)):w.shape? g=some (t,cur.size):=by
 simp[World.shape?,h]
theorem xW{w:World}{g:Nat}{cur:Array Value}{t:TypeId}{f:Nat×Nat}(h:w.heap[g]?=some (Obj.cells cur t f))(p:Nat):w.cell? ⟨g,p,none⟩=cur[p]?:=by
 simp[World.cell?,h]
theorem dI(l:List Nat)(e vb base:Nat)(v:Value)(w:World)(hv:w.ownsRow base 3 1 v l.length (inV (plI l)))(hvb:Blk vb #[.int .i64 ((e:Nat):Int)] 3 w)(hne:∀g c,v=.slice (some ⟨g,0,none⟩) l.length c->vb≠g)(hb:base<=w.heap.size)(ha:l.Pairwise (·<·))(he:e∉l)(hs:l.length<=999) :
  Calls prog 148 #[v,.int .i64 ((l.countP (·<e):Nat):Int),.slice (some ⟨vb,0,none⟩) 1 1] w λen w'=>∃(a:OA)(c:Nat),en=.returned (.slice a (l.length+1) c)/\SliceC IntC 1 base w' a (plI (Fv e l))/\Below base w w':=by
 have hins:=xH ha he;have hlen:(Fv e l).length=l.length+1:=by rw[(Fz e l).length_eq];rfl
 have hi:l.countP (·<e)<=l.length:=List.countP_le_length;have hu:w.cell? ⟨vb,0,none⟩=some (.int .i64 ((e:Nat):Int)):=hvb.cell rfl;have hvs:∀j (u:Value),([.int .i64 ((e:Nat):Int)]:List Value)[j]?=some u->w.cell? ⟨vb,0+j,none⟩=some u:=λj u hj=>by
  have hj0:j=0:=by have:=Ac hj;simpa using this
  subst hj0;cases hj
  exact hu
 have h1v:∀u∈([.int .i64 ((e:Nat):Int)]:List Value),u.oneCell'=true:=λu hu=>by rw[List.mem_singleton.1 hu];rfl
 generalize l.countP (·<e)=i at *;rcases hv.2 with⟨rfl,h0⟩|⟨g,cap,cur,rfl,hbg,hg,hnc,hcm,hcs,hct⟩
 .have hl:l=[]:=List.length_eq_zero_iff.1 h0
  subst hl;have hi0:i=0:=by simpa using hi
  subst hi0;refine(Any2.slices_Insert_int_end_grow xE none 0 0 vb 0 1 1 [] [.int .i64 ((e:Nat):Int)] w (by omega) (by omega) (by omega) (by omega) rfl rfl (λ_=>rfl) (λa h=>by cases h) hvs h1v).mono ?_;rintro en w' ⟨rfl,rfl⟩;have hbl:Below w.heap.size w (w.drew.alloc (.cells ((([]:List Value)++([Value.int .i64 ((e:Nat):Int)]:List Value)).toArray++Builtin.zeroCells (Value.int .i64 0).cells (grownCap w (0+1) 0 (qF.t 3)-(0+1))) (qF.t 3))):=(Below.refl _ w).drew.alloc nL _;refine⟨_,_,rfl,Kk (λj u hj=>?_) (λp=>World.frozen?_alloc_at (w:=w.drew) _ _ w.heap.size p rfl) (by simp) hb (by rw[hlen];omega),hbl.mono hb⟩;rw[hins]at hj;have hj0:j=0:=by have:=Ac hj;simpa using this
  subst hj0;cases hj
  rw[World.cell?_alloc_at (w:=w.drew) _ _ w.heap.size (0+0) rfl,Array.getElem?_append_left (by simp)];rfl
 .have hgl:g<w.heap.size:=(Array.getElem?_eq_some_iff.1 hg).1
  have hcl:(inV (plI l)).length=l.length:=by simp
  have hcell:∀(j:Nat) u,(inV (plI l))[j]?=some u->w.cell? ⟨g,j,none⟩=some u:=λj u hj=>by
   have hjl:=Ac hj;rw[xW hg,<-hj,<-hct];rw[List.getElem?_take,if_pos (by rw[hcl]at hjl;omega)];simp
  have hsm:∀j,j<cap->(w.cell? ⟨g,j,none⟩).isSome=true:=λj hj=>by rw[xW hg,Array.getElem?_eq_getElem (by omega)];rfl
  have hfz:=zX hg;have hc63:cap<=9223372036854775807:=by unfold maxLen at hcm;omega
  have hvg:=hne g cap rfl;by_cases hin:i<l.length
  .by_cases hroom:l.length+1<=cap
   .have hvh:w.heap[vb]?=some (Obj.cells #[.int .i64 ((e:Nat):Int)] 3 (0,0)):=hvb
    refine(Any2.slices_Insert_int_shift xE g 0 l.length cap i vb 0 1 1 (inV (plI l)) [.int .i64 ((e:Nat):Int)] w hin (by omega) hroom hc63 hvg hcl rfl (λj u hj=>by rw[Nat.zero_add];exact hcell j u hj) (λj hj=>by rw[Nat.zero_add];exact hsm j (by omega)) (λj _=>hfz _) hvs (Ss _) h1v _ _ _ _ (BD hvh) (BD hg) (by rw[hcs];omega) (zX hvh _) (zX hvh _)).mono ?_;rintro en w' ⟨rfl,rfl⟩;refine⟨_,_,rfl,Kk (λj u hj=>?_) (λp=>by rw[World.frozen?_setCells,World.frozen?_setCells];exact hfz p) (by rw[Az,Az];exact hgl) hbg (by rw[hlen];omega),Aj hbg _ _ _ (Aj hbg _ _ _ (Below.refl _ w).drew)⟩;rw[hins]at hj;have hti:((inV (plI l)).take i).length=i:=by rw[List.length_take,hcl];omega
    have hR2:=World.rangeAt_setCells_same w.drew g (0+(i+1)) ((inV (plI l)).drop i) (λt ht=>⟨hsm _ (by rw[List.length_drop,hcl]at ht;omega),hfz _⟩);have hR1:=World.rangeAt_setCells_same (w.drew.setCells g (0+(i+1)) ((inV (plI l)).drop i)) g (0+i) [.int .i64 ((e:Nat):Int)] (λt ht=>⟨isSome_setCells g _ _ w.drew (λq hq=>hsm _ (by rw[List.length_drop,hcl]at hq;omega)) _ (hsm _ (by simp at ht;omega)),by rw[World.frozen?_setCells];exact hfz _⟩);by_cases h1:j<i
    .rw[List.getElem?_append_left (by omega)]at hj
     rw[World.cell?_setCells_out _ _ _ _ _ (λ_ _=>Or.inl (by show 0+j<0+i;omega)),World.cell?_setCells_out _ _ _ _ _ (λ_ _=>Or.inl (by show 0+j<0+(i+1);omega)),Nat.zero_add];rw[List.getElem?_take,if_pos h1]at hj;exact hcell j u hj
    .by_cases h2:j=i
     .subst h2
      rw[List.getElem?_append_right (by omega),hti,Nat.sub_self]at hj;have:=hR1 0 u hj;simpa using this
     .rw[List.getElem?_append_right (by omega),hti,show j-i=(j-(i+1))+1 by omega,List.getElem?_cons_succ]at hj
      rw[World.cell?_setCells_out _ _ _ _ _ (λ_ _=>Or.inr (by show 0+i+1<=0+j;omega))];have:=hR2 (j-(i+1)) u hj
      rwa [show 0+(i+1)+(j-(i+1))=0+j by omega]at this
   .have hce:cap=l.length:=by omega
    subst hce;refine(yW g vb l.length i (inV (plI l)) _ w hin (by omega) hcl hcell hu (Ss _) rfl).mono ?_;rintro en w' ⟨G,rfl,h1,h2,h3,h4⟩;rw[<-hins]at h1;exact⟨_,_,rfl,Kk h1 h3 h2 hb (by rw[hlen];omega),h4.mono hb⟩
  .have hie:i=l.length:=by omega
   subst hie;by_cases hroom:l.length+1<=cap
   .refine(Any2.slices_Insert_int_end_room xE g 0 l.length cap vb 0 1 1 [.int .i64 ((e:Nat):Int)] w (by omega) hroom hc63 rfl (λj hj=>hsm _ (by omega)) (λj _=>hfz _) hvs h1v).mono ?_
    rintro en w' ⟨rfl,rfl⟩;refine⟨_,_,rfl,Kk (λj u hj=>?_) (λp=>by rw[World.frozen?_setCells];exact hfz p) (by rw[Az];exact hgl) hbg (by rw[hlen];omega),Aj hbg _ _ _ (Below.refl _ w)⟩;rw[hins]at hj;rw[show(inV (plI l)).take l.length=inV (plI l)from List.take_of_length_le (by rw[hcl];exact Nat.le_refl _)]at hj;have hR1:=World.rangeAt_setCells_same w g (0+l.length) [.int .i64 ((e:Nat):Int)] (λt ht=>⟨hsm _ (by simp at ht;omega),hfz _⟩);by_cases h1:j<l.length
    .rw[List.getElem?_append_left (by rw[hcl];exact h1)]at hj
     rw[World.cell?_setCells_out _ _ _ _ _ (λ_ _=>Or.inl (by show 0+j<0+l.length;omega)),Nat.zero_add];exact hcell j u hj
    .rw[show(inV (plI l)).drop l.length=[]from List.drop_eq_nil_of_le (by rw[hcl];exact Nat.le_refl _)]at hj
     have hj2:=Ac hj;rw[List.length_append,hcl]at hj2;have h2:j=l.length:=by simp at hj2;omega
     subst h2;rw[List.getElem?_append_right (by rw[hcl];exact Nat.le_refl _),hcl,Nat.sub_self]at hj;have:=hR1 0 u hj;simpa using this
   .refine(Any2.slices_Insert_int_end_grow xE (some ⟨g,0,none⟩) l.length cap vb 0 1 1 (inV (plI l)) [.int .i64 ((e:Nat):Int)] w (by omega) hnc (by omega) (by omega) hcl rfl (λh=>by cases h) (λa h j u hj=>by cases h;rw[Addr.add_lit,Nat.zero_add];exact hcell j u hj) hvs h1v).mono ?_
    rintro en w' ⟨rfl,rfl⟩;have hbl:Below w.heap.size w (w.drew.alloc (.cells ((inV (plI l)++([Value.int .i64 ((e:Nat):Int)]:List Value)).toArray++Builtin.zeroCells (Value.int .i64 0).cells (grownCap w (l.length+1) cap (qF.t 3)-(l.length+1))) (qF.t 3))):=(Below.refl _ w).drew.alloc nL _;refine⟨_,_,rfl,Kk (λj u hj=>?_) (λp=>World.frozen?_alloc_at (w:=w.drew) _ _ w.heap.size p rfl) (by simp) hb (by rw[hlen];omega),hbl.mono hb⟩;rw[hins,show(inV (plI l)).take l.length=inV (plI l)from List.take_of_length_le (by rw[hcl];exact Nat.le_refl _),show(inV (plI l)).drop l.length=[]from List.drop_eq_nil_of_le (by rw[hcl];exact Nat.le_refl _)]at hj;have hj2:=Ac hj;rw[World.cell?_alloc_at (w:=w.drew) _ _ w.heap.size (0+j) rfl,Nat.zero_add,Array.getElem?_append_left (by simpa using hj2)];simpa using hj
theorem uQ(e:Nat):∀l:List Nat,(plI l).countP (·<((e:Nat):Int))=l.countP (·<e)
 |[]=>rfl
 |a::l=>by
  rw[show plI (a::l)=((a:Nat):Int)::plI l from rfl,List.countP_cons,List.countP_cons,uQ e l];by_cases h:a<e
  .rw[if_pos (by simpa using h),if_pos (by simpa using h)]
  .rw[if_neg (by simpa using h),if_neg (by simpa using h)]
theorem vK(l:List Nat)(a:OA)(c lo e:Nat)(w:World)(h:SliceC IntC 1 lo w a (plI l))(ha:l.Pairwise (·<·))(hs:l.length<=1000) :
  Calls prog 147 #[.slice a l.length c,.int .i64 ((e:Nat):Int)] w λen w'=>∃t,en=.returned (.tuple #[.int .i64 ((l.countP (·<e):Nat):Int),.bool t])/\Below w.heap.size w w':=by
 rcases h.2 with h2|⟨b,o,rfl,_⟩
 .have hl:l=[]:=by simpa using h2
  subst hl;clear h ha hs h2;go_enter func147,ntmps147
  go_wp2
  go_loopw [7,8] (λs7 s8 wr=>s7=.int .i64 0/\s8=.int .i64 0/\Below w.heap.size w wr) (λ_ _ _=>0)
  case atStart=>exact⟨rfl,rfl,Below.refl _ _⟩
  case round =>
   obtain⟨rfl,rfl,hB⟩:=hrel;go_wp2_with fail;exact bodyPost_ret (results_tmp2 rfl _ _ _) rfl ⟨false,rfl,hB⟩
 .refine(Any.slices_BinarySearch_int bsI b o l.length c (plI l) ((e:Nat):Int) w (by simp) (by omega) (λj hj=>?_) ?_).mono ?_
  .have hj2:j<l.length:=by simpa using hj
   have hx:(plI l)[j]?=some ((l[j]:Nat):Int):=Ro (gE hj2);obtain⟨b',o',e',_,_,hc⟩:=h.at hx;cases e'
   have h9:_=_:=hc;simp only[Nat.mul_one,Nat.add_zero]at h9;rw[h9,List.getD_eq_getElem?_getD,hx];rfl
  .rw[List.take_of_length_le (by simp)]
   rw[List.pairwise_map];exact ha.imp (λh=>by omega)
  .rintro en w' ⟨rfl,q,rfl⟩
   rw[List.take_of_length_le (by simp),uQ];exact⟨_,rfl,⟨rfl,rfl,rfl,Nat.le_refl _,λ_ _=>rfl⟩⟩
end Go.Proofs.YtpidfnfilnkhkaaGreat
