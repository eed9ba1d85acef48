import Derived.Test.YtjoeojhdkoidbaaGreatMwo
import Derived.Test.YtjoeojhdkoidbaaGreatJ35
set_option maxHeartbeats 2000000
namespace Go.Proofs.YtjoeojhdkoidbaaGreat
open Tryz
set_option maxRecDepth 100000
open Go.RowKit Tryz
theorem StrC.cells {lo:Nat} {w:World} {f:Nat→Option Value} {x:BA} (h:StrC lo w f x) (i:Nat) (hi:i<1):∃ u,f i=some u:=by
 rw [show i=0 by omega];exact ⟨_,h.1⟩
theorem LikC.cells {lo:Nat} {w:World} {f:Nat→Option Value} {x:Lik} (h:LikC lo w f x) (i:Nat) (hi:i<2):∃ u,f i=some u:=by
 obtain ⟨h0,h1,_⟩:=h;rcases (by omega:i=0∨i=1) with rfl | rfl
 ·exact ⟨_,h0⟩
 ·exact ⟨_,h1⟩
theorem EnW.of {β:Type} {C:Ej β} {m base:Nat} {w:World} {b o:Nat} {xs:List β} (hX:∀ (lo:Nat) (w:World) (f:Nat→Option Value) (x:β),C lo w f x→∀ i,i<m→∃ u,f i=some u) (hm:0<m) (hb:0<base) (h:SliceC C m base w (some ⟨b,o,none⟩) xs) (hne:xs≠[]):EnW w b o (xs.length*m):=by
 refine ⟨fun t ht=>?_,fun p=>h.frz hne hb p⟩;have hq:t / m<xs.length:=Nat.div_lt_of_lt_mul (by rw [Nat.mul_comm];exact ht);obtain ⟨x,hx⟩:∃ x,xs[t / m]?=some x:=⟨xs[t / m],gE hq⟩;obtain ⟨b',o',e,_,_,hc⟩:=h.at hx;cases e
 obtain ⟨u,hu⟩:=hX _ _ _ _ hc (t % m) (Nat.mod_lt _ hm);refine ⟨u,?_⟩;have he:o+t / m*m+t % m=o+t:=by have:=Nat.div_add_mod t m;rw [Nat.mul_comm] at this;omega
 have hu2:w.cell? ⟨b,o+t / m*m+t % m,none⟩=some u:=hu;rw [he] at hu2;exact hu2
section
variable {α β:Type} {V:α→Value→List Value} {sub:α→List β} {C:Ej β} {m n f:Nat}
theorem AnW.of {T:TypeId} {base g q:Nat} {w:World} {l:List α} (hX:∀ (lo:Nat) (w:World) (f:Nat→Option Value) (x:β),C lo w f x→∀ i,i<m→∃ u,f i=some u) (hm:0<m) (hV:∀ x s,(V x s).length=n) (hf:∀ x s,(V x s)[f]?=some s) (hb:0<base) (h:OwnA V sub C m n f T base w (.slice (some ⟨g,0,none⟩) l.length q) l) :
  ∃ (ea:Nat→OA) (ns ec:Nat→Nat),AnW n f m w g l.length ea ns ec∧(∀ j x,l[j]?=some x→ns j=(sub x).length)∧(∀ j b o,j<l.length→0<ns j→ea j=some ⟨b,o,none⟩→base≤b∧b<w.heap.size)∧base≤g:=by
 obtain ⟨cs,h1,h2,h3⟩:=h;have key:∀ j:Nat,∃ p:OA×Nat,∀ x,l[j]?=some x→(∀ i u,(V x (.slice p.1 (sub x).length p.2))[i]?=some u→cs[j*n+i]?=some u)∧SliceC C m base w p.1 (sub x)∧∀ b o,p.1=some ⟨b,o,none⟩→sub x≠[]→some b≠(Value.slice (some ⟨g,0,none⟩) l.length q).ownBlock∧b<w.heap.size:=by
  intro j
  cases e:l[j]? with
  | none=>exact ⟨(none,0),fun x hx=>by cases hx⟩
  | some y =>
   obtain ⟨ae,ce,q1,q2,q3⟩:=h2 j y e;exact ⟨(ae,ce),fun x hx=>by cases hx;exact ⟨q1,q2,q3⟩⟩
 obtain ⟨F,hF⟩:=Classical.axiomOfChoice key;obtain ⟨hg1,hg2⟩:=h1.lt g rfl;have hl:cs.length=l.length*n:=h1.1;have el:∀ j:Nat,j<l.length→∃ x,l[j]?=some x:=fun j hj=>⟨l[j],gE hj⟩
 have nse:∀ (j:Nat) (x:α),l[j]?=some x→((l[j]?).elim 0 (fun x=>(sub x).length))=(sub x).length:=fun j x hx=>by rw [hx];rfl
 have fld:∀ (j:Nat) (x:α),l[j]?=some x→cs[j*n+f]?=some (.slice (F j).1 (sub x).length (F j).2):=fun j x hx=>(hF j x hx).1 f _ (hf x _)
 have hfn:∀ x:α,f<n:=fun x=>by have:=Ah (hf x (.slice none 0 0));rwa [hV] at this
 refine ⟨fun j=>(F j).1,fun j=>(l[j]?).elim 0 (fun x=>(sub x).length),fun j=>(F j).2,⟨hg2,fun p hp=>⟨_,(h1.cellAt p hp).trans (gE (by omega))⟩,fun p=>h1.frozenAt p,fun j hj=>?_,fun j hj=>?_,fun i j b o b' o' hij hj hi hjn ei ej=>?_⟩,nse,fun j b o hj hn e=>?_,hg1⟩
 ·obtain ⟨x,hx⟩:=el j hj
  have hlt:j*n+f<l.length*n:=by
   have h5:(j+1)*n≤l.length*n:=Nat.mul_le_mul_right n (by omega);rw [Nat.add_mul] at h5;have:=hfn x;omega
  rw [h1.cellAt (j*n+f) hlt,fld j x hx];simp only [nse j x hx]
 ·obtain ⟨x,hx⟩:=el j hj
  simp only [nse j x hx];by_cases hs:sub x=[]
  ·exact .inl (by rw [hs];rfl)
  ·obtain ⟨_,q2,q3⟩:=hF j x hx
   rcases q2.2 with h9 | ⟨b,o,e,_,hbl,_⟩
   ·exact absurd h9 hs
   ·refine .inr ⟨b,o,e,fun e2=>?_,hbl,?_⟩
    ·exact (q3 b o e hs).1 (by rw [e2];rfl)
    ·rw [e] at q2
     exact EnW.of hX hm hb q2 hs
 ·obtain ⟨x,hx⟩:=el i (by omega)
  obtain ⟨y,hy⟩:=el j hj;simp only [nse i x hx] at hi;simp only [nse j y hy] at hjn;have c1:=fld i x hx;have c2:=fld j y hy;rw [ei] at c1;rw [ej] at c2;exact h3 i j b o _ _ b' o' _ _ hij hj c1 c2 hi hjn
 ·obtain ⟨x,hx⟩:=el j hj
  simp only [nse j x hx] at hn;obtain ⟨_,q2,_⟩:=hF j x hx;rcases q2.2 with h9 | ⟨b',o',e',⟨h8,_⟩,h7,_⟩
  ·rw [h9] at hn;cases hn
  ·have e2:(F j).1=some ⟨b,o,none⟩:=e
   rw [e2] at e';cases e'
   exact ⟨h8,h7⟩
end
def KpI (lo hi:Nat) (a b:World):Prop:=a.heap.size≤b.heap.size∧∀ x,lo≤x→x<hi→x<a.heap.size→∀ o,b.cell? ⟨x,o,none⟩=a.cell? ⟨x,o,none⟩∧b.frozen? ⟨x,o,none⟩=a.frozen? ⟨x,o,none⟩
theorem KpI.refl (lo hi:Nat) (a:World):KpI lo hi a a:=⟨Nat.le_refl _,fun _ _ _ _ _=>⟨rfl,rfl⟩⟩
theorem KpI.trans {lo hi:Nat} {a b c:World} (h:KpI lo hi a b) (k:KpI lo hi b c):KpI lo hi a c:=⟨lT h.1 k.1,fun x h1 h2 h3 o=>⟨(k.2 x h1 h2 (lL h3 h.1) o).1.trans (h.2 x h1 h2 h3 o).1,(k.2 x h1 h2 (lL h3 h.1) o).2.trans (h.2 x h1 h2 h3 o).2⟩⟩
theorem KpI.below {lo hi:Nat} {a b:World} (h:Below a.heap.size a b):KpI lo hi a b:=⟨h.size,fun x _ _ h3 o=>⟨h.cell (p:=⟨x,o,none⟩) h3,h.frozen (p:=⟨x,o,none⟩) h3⟩⟩
theorem KpI.keeps {lo hi l:Nat} {a b:World} (h:Keeps l a b) (hl:l≤lo):KpI lo hi a b:=⟨h.1,fun x h1 _ h3 o=>h.2 x o (lT hl h1) h3⟩
theorem KpI.cell {lo hi b o:Nat} {a c:World} (h:KpI lo hi a c) (h1:lo≤b) (h2:b<hi) (h3:b<a.heap.size):c.cell? ⟨b,o,none⟩=a.cell? ⟨b,o,none⟩:=(h.2 b h1 h2 h3 o).1
theorem KpI.frozen {lo hi b o:Nat} {a c:World} (h:KpI lo hi a c) (h1:lo≤b) (h2:b<hi) (h3:b<a.heap.size):c.frozen? ⟨b,o,none⟩=a.frozen? ⟨b,o,none⟩:=(h.2 b h1 h2 h3 o).2
structure Out (lo hi:Nat) (a b:World):Prop where
 os:b.os=a.os
 tape:b.tape=a.tape
 output:b.output=a.output
 size:a.heap.size≤b.heap.size
 block:∀ x,x<a.heap.size→x<lo∨hi≤x→b.heap[x]?=a.heap[x]?
theorem Out.of_below {lo hi:Nat} {a b:World} (h:Below a.heap.size a b):Out lo hi a b:=⟨h.os,h.tape,h.output,h.size,fun x hx _=>h.block x hx⟩
theorem Out.trans {lo hi:Nat} {a b c:World} (h:Out lo hi a b) (k:Out lo hi b c):Out lo hi a c:=⟨k.os.trans h.os,k.tape.trans h.tape,k.output.trans h.output,lT h.size k.size,fun x hx ho=>(k.block x (lL hx h.size) ho).trans (h.block x hx ho)⟩
theorem Out.wide {lo hi lo' hi':Nat} {a b:World} (h:Out lo hi a b) (h1:lo'≤lo) (h2:hi≤hi'):Out lo' hi' a b:=⟨h.os,h.tape,h.output,h.size,fun x hx ho=>h.block x hx (by omega)⟩
theorem Out.kpi {lo hi lo' hi':Nat} {a b:World} (h:Out lo hi a b) (hd:hi≤lo'∨hi'≤lo):KpI lo' hi' a b:=⟨h.size,fun x h1 h2 h3 o=>⟨World.cell?_of_block (a:=⟨x,o,none⟩) (h.block x h3 (by omega)),World.frozen?_of_block (a:=⟨x,o,none⟩) (h.block x h3 (by omega))⟩⟩
theorem Out.bel {lo hi:Nat} {a b:World} (h:Out lo hi a b) (hl:lo≤a.heap.size):Below lo a b:=⟨h.os,h.tape,h.output,h.size,fun k hk=>h.block k (by omega) (.inl hk)⟩
theorem Wr.out {L:List (Nat×Nat×Nat)} {a b:World} {lo hi:Nat} (h:Wr L a b) (hl:∀ x p c,(x,p,c)∈L→lo≤x∧x<hi):Out lo hi a b:=⟨h.os,h.tape,h.output,h.size,fun x hx ho=>h.block x hx (fun p c hm=>by have:=hl x p c hm;omega)⟩
theorem Mk.kpi {L:List (Nat×Nat×Nat)} {a b:World} {lo hi k:Nat} (h:Mk a L k) (hk:KpI lo hi a b) (hl:∀ x p c,(x,p,c)∈L→lo≤x∧x<hi):Mk b L k:=fun j x p c hj=>by
 have h1:=h j x p c hj;have h2:=hl x p c (List.mem_of_getElem? hj);exact (hk.cell h2.1 h2.2 (block_lt_of_cell h1)).trans h1
def LA (mf hf:FuncId) (v:Value) (W:World) (lo hi len:Nat):Prop :=
 ∀ (w:World) (k:Nat),KpI lo hi W w→0<k→k+len≤1073741824→Calls prog mf #[v,.int .i64 (k:Int)] w fun e w'=>e=.returned (.int .i64 ((k+len:Nat):Int))∧Out lo hi w w'∧∀ w2,KpI lo hi w' w2→Calls prog hf #[v,.int .i64 (k:Int)] w2 fun e w3=>e=.returned (.int .i64 ((k+len:Nat):Int))∧Below w2.heap.size w2 w3
theorem kL (a:OA) (cap T:Nat) (w:World) :
  Calls prog 40 #[.slice a 0 cap,.int .i64 (T:Int)] w (Rt (.int .i64 (T:Int)) w):=by
 go_enter func40,ntmps40;go_wp2_with fail;go_loopw [1,5] (fun v i wr=>v=.int .i64 (T:Int)∧i=.int .i64 0∧wr=w) (fun _ _ _=>0)
 case atStart=>exact ⟨rfl,rfl,rfl⟩
 case round =>
  obtain ⟨rfl,rfl,rfl⟩:=hrel;go_wp2_with fail;go_ret;exact ⟨rfl,Below.refl _ _⟩
theorem jY (a:OA) (cap T:Nat) (w:World) :
  Calls prog 44 #[.slice a 0 cap,.int .i64 (T:Int)] w (Rt (.int .i64 (T:Int)) w):=by
 go_enter func44,ntmps44;go_wp2_with fail;go_loopw [1,5] (fun v i wr=>v=.int .i64 (T:Int)∧i=.int .i64 0∧wr=w) (fun _ _ _=>0)
 case atStart=>exact ⟨rfl,rfl,rfl⟩
 case round =>
  obtain ⟨rfl,rfl,rfl⟩:=hrel;go_wp2_with fail;go_ret;exact ⟨rfl,Below.refl _ _⟩
theorem LA.nilBrt (a:OA) (cap:Nat) (W:World) (lo hi:Nat):LA 40 44 (.slice a 0 cap) W lo hi 0:=by
 intro w k _ _ _;refine (kL a cap k w).mono ?_;rintro e w' ⟨rfl,hb⟩;refine ⟨rfl,Out.of_below hb,fun w2 _=>?_⟩;refine (jY a cap k w2).mono ?_;rintro e w3 ⟨rfl,hb3⟩;exact ⟨rfl,hb3⟩
theorem mG (a:OA) (cap T:Nat) (w:World) :
  Calls prog 41 #[.slice a 0 cap,.int .i64 (T:Int)] w (Rt (.int .i64 (T:Int)) w):=by
 go_enter func41,ntmps41;go_wp2_with fail;go_loopw [1,5] (fun v i wr=>v=.int .i64 (T:Int)∧i=.int .i64 0∧wr=w) (fun _ _ _=>0)
 case atStart=>exact ⟨rfl,rfl,rfl⟩
 case round =>
  obtain ⟨rfl,rfl,rfl⟩:=hrel;go_wp2_with fail;go_ret;exact ⟨rfl,Below.refl _ _⟩
theorem kO (a:OA) (cap T:Nat) (w:World) :
  Calls prog 45 #[.slice a 0 cap,.int .i64 (T:Int)] w (Rt (.int .i64 (T:Int)) w):=by
 go_enter func45,ntmps45;go_wp2_with fail;go_loopw [1,5] (fun v i wr=>v=.int .i64 (T:Int)∧i=.int .i64 0∧wr=w) (fun _ _ _=>0)
 case atStart=>exact ⟨rfl,rfl,rfl⟩
 case round =>
  obtain ⟨rfl,rfl,rfl⟩:=hrel;go_wp2_with fail;go_ret;exact ⟨rfl,Below.refl _ _⟩
theorem LA.nilSvc (a:OA) (cap:Nat) (W:World) (lo hi:Nat):LA 41 45 (.slice a 0 cap) W lo hi 0:=by
 intro w k _ _ _;refine (mG a cap k w).mono ?_;rintro e w' ⟨rfl,hb⟩;refine ⟨rfl,Out.of_below hb,fun w2 _=>?_⟩;refine (kO a cap k w2).mono ?_;rintro e w3 ⟨rfl,hb3⟩;exact ⟨rfl,hb3⟩
theorem kW (a:OA) (cap T:Nat) (w:World) :
  Calls prog 42 #[.slice a 0 cap,.int .i64 (T:Int)] w (Rt (.int .i64 (T:Int)) w):=by
 go_enter func42,ntmps42;go_wp2_with fail;go_loopw [1,5] (fun v i wr=>v=.int .i64 (T:Int)∧i=.int .i64 0∧wr=w) (fun _ _ _=>0)
 case atStart=>exact ⟨rfl,rfl,rfl⟩
 case round =>
  obtain ⟨rfl,rfl,rfl⟩:=hrel;go_wp2_with fail;go_ret;exact ⟨rfl,Below.refl _ _⟩
theorem jZ (a:OA) (cap T:Nat) (w:World) :
  Calls prog 46 #[.slice a 0 cap,.int .i64 (T:Int)] w (Rt (.int .i64 (T:Int)) w):=by
 go_enter func46,ntmps46;go_wp2_with fail;go_loopw [1,5] (fun v i wr=>v=.int .i64 (T:Int)∧i=.int .i64 0∧wr=w) (fun _ _ _=>0)
 case atStart=>exact ⟨rfl,rfl,rfl⟩
 case round =>
  obtain ⟨rfl,rfl,rfl⟩:=hrel;go_wp2_with fail;go_ret;exact ⟨rfl,Below.refl _ _⟩
theorem LA.nilCpy (a:OA) (cap:Nat) (W:World) (lo hi:Nat):LA 42 46 (.slice a 0 cap) W lo hi 0:=by
 intro w k _ _ _;refine (kW a cap k w).mono ?_;rintro e w' ⟨rfl,hb⟩;refine ⟨rfl,Out.of_below hb,fun w2 _=>?_⟩;refine (jZ a cap k w2).mono ?_;rintro e w3 ⟨rfl,hb3⟩;exact ⟨rfl,hb3⟩
theorem LA.brt {W:World} {g N lo hi:Nat} {ea:Nat→OA} {ns ec:Nat→Nat} (h:AnW 6 2 1 W g N ea ns ec) (hg:lo≤g∧g<hi) (hs:∀ j b o,j<N→0<ns j→ea j=some ⟨b,o,none⟩→lo≤b∧b<hi) (hN:N≤1048576) (cap:Nat):LA 40 44 (.slice (some ⟨g,0,none⟩) N cap) W lo hi (LBr g ea ns N).length:=by
 have bd:∀ x p c,(x,p,c)∈LBr g ea ns N→lo≤x∧x<hi:=by
  intro x p c hm;rcases Nv hm with ⟨h1,_,_⟩ | ⟨j,ad,h1,h2,h3,h4⟩
  ·rw [h1];exact hg
  ·rcases h.en j h1 with e | ⟨b,o,e,_⟩
   ·omega
   ·rw [e] at h3
    cases h3
    rw [h4];exact hs j b o h1 h2 e
 intro w k hk h0 h1;have hA:AnW 6 2 1 w g N ea ns ec:=by
  refine ⟨lL h.lt hk.1,fun p hp=>?_,fun p=>(hk.frozen hg.1 hg.2 h.lt).trans (h.rfz p),fun j hj=>(hk.cell hg.1 hg.2 h.lt).trans (h.sl j hj),fun j hj=>?_,h.ap⟩
  ·obtain ⟨u,hu⟩:=h.row p hp
   exact ⟨u,(hk.cell hg.1 hg.2 h.lt).trans hu⟩
  ·by_cases hz:ns j=0
   ·exact .inl hz
   ·rcases h.en j hj with e | ⟨b,o,e,hne,hbl,hE⟩
    ·exact .inl e
    ·have hb:=hs j b o hj (by omega) e
     exact .inr ⟨b,o,e,hne,lL hbl hk.1,fun t ht=>by obtain ⟨u,hu⟩:=hE.1 t ht;exact ⟨u,(hk.cell hb.1 hb.2 hbl).trans hu⟩,fun p=>(hk.frozen hb.1 hb.2 hbl).trans (hE.2 p)⟩
 refine (Yc g N ea ns ec cap k w hA hN h0 h1).mono ?_;rintro e w' ⟨rfl,hW,hM⟩;refine ⟨rfl,hW.out bd,fun w2 hk2=>?_⟩;refine Xs g N ea ns ec cap k w2 (hM.kpi hk2 bd) (fun j hj=>?_) (fun j hj=>?_) hN h0 h1
 ·exact (hk2.cell hg.1 hg.2 (lL hA.lt hW.size)).trans ((hW.cell g _ hA.lt (fun c=>aN hA nL j c)).trans (hA.sl j hj))
 ·rcases h.en j hj with e | ⟨b,o,e,_⟩
  ·exact .inl e
  ·exact .inr ⟨b,o,e⟩
theorem LA.cpy {W:World} {g N lo hi:Nat} {ea:Nat→OA} {ns ec:Nat→Nat} (h:AnW 12 7 2 W g N ea ns ec) (hg:lo≤g∧g<hi) (hs:∀ j b o,j<N→0<ns j→ea j=some ⟨b,o,none⟩→lo≤b∧b<hi) (hN:N≤1048576) (cap:Nat):LA 42 46 (.slice (some ⟨g,0,none⟩) N cap) W lo hi (LCp g ea ns N).length:=by
 have bd:∀ x p c,(x,p,c)∈LCp g ea ns N→lo≤x∧x<hi:=by
  intro x p c hm;rcases Oz hm with ⟨h1,_,_⟩ | ⟨j,ad,h1,h2,h3,h4⟩
  ·rw [h1];exact hg
  ·rcases h.en j h1 with e | ⟨b,o,e,_⟩
   ·omega
   ·rw [e] at h3
    cases h3
    rw [h4];exact hs j b o h1 h2 e
 intro w k hk h0 h1;have hA:AnW 12 7 2 w g N ea ns ec:=by
  refine ⟨lL h.lt hk.1,fun p hp=>?_,fun p=>(hk.frozen hg.1 hg.2 h.lt).trans (h.rfz p),fun j hj=>(hk.cell hg.1 hg.2 h.lt).trans (h.sl j hj),fun j hj=>?_,h.ap⟩
  ·obtain ⟨u,hu⟩:=h.row p hp
   exact ⟨u,(hk.cell hg.1 hg.2 h.lt).trans hu⟩
  ·by_cases hz:ns j=0
   ·exact .inl hz
   ·rcases h.en j hj with e | ⟨b,o,e,hne,hbl,hE⟩
    ·exact .inl e
    ·have hb:=hs j b o hj (by omega) e
     exact .inr ⟨b,o,e,hne,lL hbl hk.1,fun t ht=>by obtain ⟨u,hu⟩:=hE.1 t ht;exact ⟨u,(hk.cell hb.1 hb.2 hbl).trans hu⟩,fun p=>(hk.frozen hb.1 hb.2 hbl).trans (hE.2 p)⟩
 refine (Yz g N ea ns ec cap k w hA hN h0 h1).mono ?_;rintro e w' ⟨rfl,hW,hM⟩;refine ⟨rfl,hW.out bd,fun w2 hk2=>?_⟩;refine Xv g N ea ns ec cap k w2 (hM.kpi hk2 bd) (fun j hj=>?_) (fun j hj=>?_) hN h0 h1
 ·exact (hk2.cell hg.1 hg.2 (lL hA.lt hW.size)).trans ((hW.cell g _ hA.lt (fun c=>cU hA nL j c)).trans (hA.sl j hj))
 ·rcases h.en j hj with e | ⟨b,o,e,_⟩
  ·exact .inl e
  ·exact .inr ⟨b,o,e⟩
theorem LA.svc {W:World} {b o N lo hi:Nat} (h:EnW W b o (N*2)) (hl:b<W.heap.size) (hg:lo≤b∧b<hi) (cap:Nat):LA 41 45 (.slice (some ⟨b,o,none⟩) N cap) W lo hi (N*2):=by
 have bd:∀ x p c,(x,p,c)∈LSv (some ⟨b,o,none⟩) N→lo≤x∧x<hi:=by
  intro x p c hm;rw [(Rx hm).1];exact hg
 intro w k hk h0 h1;have hE:EnW w b o (N*2):=⟨fun t ht=>by obtain ⟨u,hu⟩:=h.1 t ht;exact ⟨u,(hk.cell hg.1 hg.2 hl).trans hu⟩,fun p=>(hk.frozen hg.1 hg.2 hl).trans (h.2 p)⟩;refine (Yr b o N cap k w hE (lL hl hk.1) h0 h1).mono ?_;rintro e w' ⟨rfl,hW,hM⟩;exact ⟨rfl,hW.out bd,fun w2 hk2=>Zi b o N cap k w2 (hM.kpi hk2 bd) h0 h1⟩
theorem Yt {Z:World} {pk:Bool} {a1:OA} {m1 c1:Nat} {a2:OA} {m2 c2:Nat} {a3:OA} {m3 c3:Nat} {B1 B2 B3 B4 n1 n2 n3 k:Nat}
  (l1:∀ w2,KpI B1 B2 Z w2→Calls prog 44 #[.slice a1 m1 c1,.int .i64 (k:Int)] w2 fun e w3=>e=.returned (.int .i64 ((k+n1:Nat):Int))∧Below w2.heap.size w2 w3)
  (l2:∀ w2,KpI B2 B3 Z w2→Calls prog 45 #[.slice a2 m2 c2,.int .i64 ((k+n1:Nat):Int)] w2 fun e w3=>e=.returned (.int .i64 ((k+n1+n2:Nat):Int))∧Below w2.heap.size w2 w3)
  (l3:∀ w2,KpI B3 B4 Z w2→Calls prog 46 #[.slice a3 m3 c3,.int .i64 ((k+n1+n2:Nat):Int)] w2 fun e w3=>e=.returned (.int .i64 ((k+n1+n2+n3:Nat):Int))∧Below w2.heap.size w2 w3)
  (h12:B1≤B2) (h23:B2≤B3) (h34:B3≤B4) (w:World) (hk:KpI B1 B4 Z w) :
  Calls prog 14 #[.agg (fgA pk a1 m1 c1 a2 m2 c2 a3 m3 c3),.int .i64 (k:Int)] w fun e w3=>e=.returned (.int .i64 ((k+n1+n2+n3:Nat):Int))∧Below w.heap.size w w3:=by
 have L1:=iH l1;have L2:=iH l2;have L3:=iH l3;clear l1 l2 l3;have hB:=(Below.refl _ w).alloc nL (Obj.cells (fgA pk a1 m1 c1 a2 m2 c2 a3 m3 c3) 36);have HX:=iH (Blk.alloc w (fgA pk a1 m1 c1 a2 m2 c2 a3 m3 c3) 36);have HK:Hid (KpI B1 B2 Z w∧KpI B2 B3 Z w∧KpI B3 B4 Z w):=⟨⟨hk.1,fun x h1 h2 h3=>hk.2 x h1 (by omega) h3⟩,⟨hk.1,fun x h1 h2 h3=>hk.2 x (by omega) (by omega) h3⟩,⟨hk.1,fun x h1 h2 h3=>hk.2 x (by omega) h2 h3⟩⟩;clear hk;go_enter func14,ntmps14;go_upto_region 1 with fail;generalize w.alloc (Obj.cells (fgA pk a1 m1 c1 a2 m2 c2 a3 m3 c3) 36)=w1 at *;have k1:w1.cell? ⟨w.heap.size,1,none⟩=some (.slice a1 m1 c1):=HX.out.cell rfl;go_wp2_with fail;refine (L1 w1 (HK.out.1.trans (KpI.below hB))).mono ?_;rintro e w2 ⟨rfl,hb⟩;have HX2:=qBk HX hb;have hB2:=qTr hB hb;clear k1 hb HX hB;obtain ⟨T1,hT1⟩:∃ T:Nat,T=k+n1:=⟨_,rfl⟩;rw [← hT1] at L2 L3 ⊢;have HT1:=iH hT1;clear hT1;have k2:w2.cell? ⟨w.heap.size,2,none⟩=some (.slice a2 m2 c2):=HX2.out.cell rfl;go_wp2_with fail;refine (L2 w2 (HK.out.2.1.trans (KpI.below hB2))).mono ?_;rintro e w3 ⟨rfl,hb⟩;have HX3:=qBk HX2 hb;have hB3:=qTr hB2 hb;clear k2 hb HX2 hB2;obtain ⟨T2,hT2⟩:∃ T:Nat,T=T1+n2:=⟨_,rfl⟩;rw [← hT2] at L3 ⊢;have HT2:=iH hT2;clear hT2;have k3:w3.cell? ⟨w.heap.size,3,none⟩=some (.slice a3 m3 c3):=HX3.out.cell rfl;go_wp2_with fail;refine (L3 w3 (HK.out.2.2.trans (KpI.below hB3))).mono ?_;rintro e w4 ⟨rfl,hb⟩;have hB4:=qTr hB3 hb;clear k3 hb HX3 hB3;obtain ⟨T3,hT3⟩:∃ T:Nat,T=T2+n3:=⟨_,rfl⟩;rw [← hT3];have HT3:=iH hT3;clear hT3;go_wp2_with fail;go_ret;exact ⟨by rw [show k+n1+n2+n3=T3 by have e1:=HT1.out;have e2:=HT2.out;have e3:=HT3.out;omega];rfl,hB4⟩
theorem LA.flt {W:World} {pk:Bool} {v1 v2 v3:Value} {B1 B2 B3 B4 n1 n2 n3:Nat} (s1:∃ a n c,v1=.slice a n c) (s2:∃ a n c,v2=.slice a n c) (s3:∃ a n c,v3=.slice a n c)
  (l1:LA 40 44 v1 W B1 B2 n1) (l2:LA 41 45 v2 W B2 B3 n2) (l3:LA 42 46 v3 W B3 B4 n3) (h12:B1≤B2) (h23:B2≤B3) (h34:B3≤B4) (hW:B4≤W.heap.size) :
  LA 12 14 (.agg #[.bool pk,v1,v2,v3]) W B1 B4 (n1+n2+n3):=by
 obtain ⟨a1,m1,c1,rfl⟩:=s1;obtain ⟨a2,m2,c2,rfl⟩:=s2;obtain ⟨a3,m3,c3,rfl⟩:=s3;have L1:=iH l1;have L2:=iH l2;have L3:=iH l3;clear l1 l2 l3;intro w k hk h0 h1;have hB:=(Below.refl _ w).alloc nL (Obj.cells (fgA pk a1 m1 c1 a2 m2 c2 a3 m3 c3) 36);have HX:=iH (Blk.alloc w (fgA pk a1 m1 c1 a2 m2 c2 a3 m3 c3) 36);have hws:B4≤w.heap.size:=lT hW hk.1;have HK:=iH hk;clear hk;go_enter func12,ntmps12;go_upto_region 1 with fail;generalize w.alloc (Obj.cells (fgA pk a1 m1 c1 a2 m2 c2 a3 m3 c3) 36)=w1 at *;have k1:w1.cell? ⟨w.heap.size,1,none⟩=some (.slice a1 m1 c1):=HX.out.cell rfl;go_wp2_with fail;refine (L1 w1 k ((KpI.trans ⟨HK.out.1,fun x h1 h2 h3=>HK.out.2 x h1 (by omega) h3⟩ (KpI.below hB))) h0 (by omega)).mono ?_;rintro e w2 ⟨rfl,ho1,hh1⟩;have HX2:Hid (Blk w.heap.size (fgA pk a1 m1 c1 a2 m2 c2 a3 m3 c3) 36 w2):=(ho1.block _ HX.out.lt (.inr (by omega))).trans HX;have HH1:=iH hh1;have HO2:Hid (Out B1 B4 w w2):=(Out.of_below hB).trans (ho1.wide nL (by omega));have HK2:Hid (KpI B2 B4 W w2):=KpI.trans ⟨HK.out.1,fun x h1 h2 h3=>HK.out.2 x (by omega) h2 h3⟩ ((KpI.below hB).trans (ho1.kpi (.inl nL)));have hs2:w1.heap.size≤w2.heap.size:=ho1.size;clear k1 ho1 hh1 HX;have hlt:w.heap.size<w2.heap.size:=HX2.out.lt;obtain ⟨T1,hT1⟩:∃ T:Nat,T=k+n1:=⟨_,rfl⟩;rw [← hT1];have HT1:=iH hT1;have hTb:0<T1∧T1+n2+n3≤1073741824:=by omega
 clear hT1;have k2:w2.cell? ⟨w.heap.size,2,none⟩=some (.slice a2 m2 c2):=HX2.out.cell rfl;go_wp2_with fail;refine (L2 w2 T1 ⟨HK2.out.1,fun x h1 h2 h3=>HK2.out.2 x h1 (by omega) h3⟩ (by omega) (by omega)).mono ?_;rintro e w3 ⟨rfl,ho2,hh2⟩;have HX3:Hid (Blk w.heap.size (fgA pk a1 m1 c1 a2 m2 c2 a3 m3 c3) 36 w3):=(ho2.block _ HX2.out.lt (.inr (by omega))).trans HX2;have HH2:=iH hh2;have HO3:Hid (Out B1 B4 w w3):=HO2.out.trans (ho2.wide (by omega) (by omega));have HK3:Hid (KpI B3 B4 W w3):=KpI.trans ⟨HK2.out.1,fun x h1 h2 h3=>HK2.out.2 x (by omega) h2 h3⟩ (ho2.kpi (.inl nL));have HP3:Hid (KpI B1 B2 w2 w3):=ho2.kpi (.inr nL);clear k2 ho2 hh2 HX2 HK2 HO2;have hlt3:w.heap.size<w3.heap.size:=HX3.out.lt;obtain ⟨T2,hT2⟩:∃ T:Nat,T=T1+n2:=⟨_,rfl⟩;rw [← hT2];have HT2:=iH hT2;have hTb2:0<T2∧T2+n3≤1073741824:=by omega
 clear hT2;have k3:w3.cell? ⟨w.heap.size,3,none⟩=some (.slice a3 m3 c3):=HX3.out.cell rfl;go_wp2_with fail;refine (L3 w3 T2 HK3 (by omega) (by omega)).mono ?_;rintro e w4 ⟨rfl,ho3,hh3⟩;have HH3:=iH hh3;have HO4:Hid (Out B1 B4 w w4):=HO3.out.trans (ho3.wide (by omega) nL);have HP4:Hid (KpI B1 B2 w2 w4∧KpI B2 B3 w3 w4):=⟨HP3.out.trans (ho3.kpi (.inr (by omega))),ho3.kpi (.inr nL)⟩;clear k3 ho3 hh3 HX3 HO3 HP3 HK3;obtain ⟨T3,hT3⟩:∃ T:Nat,T=T2+n3:=⟨_,rfl⟩;rw [← hT3];have HT3:=iH hT3;have hTb3:T3≤1073741824:=by omega
 clear hT3;go_wp2_with fail;go_ret;have e1:=HT1.out;have e2:=HT2.out;have e3:=HT3.out;have eT:k+(n1+n2+n3)=k+n1+n2+n3:=by omega
 refine ⟨by rw [show k+(n1+n2+n3)=T3 by omega];rfl,HO4,fun wz hkz=>?_⟩;rw [eT];refine Yt (Z:=w4) (fun w5 h5=>HH1.out w5 (HP4.out.1.trans h5)) (fun w5 h5=>?_) (fun w5 h5=>?_) h12 h23 h34 wz hkz
 ·have h:=HH2.out w5 (HP4.out.2.trans h5)
  rw [e1] at h;exact h
 ·have h:=HH3.out w5 h5
  rw [e2,e1] at h;exact h
theorem LA.at {mf hf:FuncId} {v:Value} {W W':World} {lo hi len:Nat} (h:LA mf hf v W lo hi len) (hk:KpI lo hi W W'):LA mf hf v W' lo hi len:=fun w k h1 h2 h3=>h w k (hk.trans h1) h2 h3
theorem LA.hi {mf hf:FuncId} {v:Value} {W:World} {lo hi hi' len:Nat} (h:LA mf hf v W lo hi len) (hh:hi≤hi'):LA mf hf v W lo hi' len:=fun w k h1 h2 h3=>by
 refine (h w k ⟨h1.1,fun x a b c=>h1.2 x a (by omega) c⟩ h2 h3).mono ?_;rintro e w' ⟨rfl,ho,hd⟩;exact ⟨rfl,ho.wide nL hh,fun w2 hk=>hd w2 ⟨hk.1,fun x a b c=>hk.2 x a (by omega) c⟩⟩
theorem Wj {W:World} {g:Nat} {ea:Nat→OA} {ns ec:Nat→Nat} {l:List Brt} (h:AnW 6 2 1 W g l.length ea ns ec) (hn:∀ (j:Nat) (x:Brt),l[j]?=some x→ns j=x.marks.length):∀ J,J≤l.length→(LBr g ea ns J).length=5*J+1*((l.take J).map (fun x=>x.marks.length)).sum
 | 0,_=>rfl
 | J+1,hJ=>by
  obtain ⟨x,hx⟩:∃ x,l[J]?=some x:=⟨l[J]'(by omega),gE (by omega)⟩;have h1:=Wj h hn J (by omega);have h2:=jE h (J:=J) (by omega);have h3:=El (fun x:Brt=>x.marks.length) l J x hx;have h4:=hn J x hx;simp only [LBr,List.length_append,List.length_cons,List.length_nil];omega
theorem Wc:∀ l:List Brt,(l.map (fun x=>x.marks.length)).sum≤(l.map Ct).sum
 | []=>Nat.le_refl _
 | x::r=>by
  have h1:=Wc r;have h2:x.marks.length≤Ct x:=by unfold Ct wS;omega
  simp only [List.map_cons,List.sum_cons];omega
theorem Wl {W:World} {g:Nat} {ea:Nat→OA} {ns ec:Nat→Nat} {l:List Cpy} (h:AnW 12 7 2 W g l.length ea ns ec) (hn:∀ (j:Nat) (x:Cpy),l[j]?=some x→ns j=x.likes.length):∀ J,J≤l.length→(LCp g ea ns J).length=11*J+2*((l.take J).map (fun x=>x.likes.length)).sum
 | 0,_=>rfl
 | J+1,hJ=>by
  obtain ⟨x,hx⟩:∃ x,l[J]?=some x:=⟨l[J]'(by omega),gE (by omega)⟩;have h1:=Wl h hn J (by omega);have h2:=aB h (J:=J) (by omega);have h3:=El (fun x:Cpy=>x.likes.length) l J x hx;have h4:=hn J x hx;simp only [LCp,List.length_append,List.length_cons,List.length_nil];omega
theorem Wx:∀ l:List Cpy,(l.map (fun x=>x.likes.length)).sum≤(l.map Cl).sum
 | []=>Nat.le_refl _
 | x::r=>by
  have h1:=Wx r;have h2:x.likes.length≤Cl x:=by unfold Cl wS;omega
  simp only [List.map_cons,List.sum_cons];omega
theorem kA {l:List Brt} {base top q:Nat} {a:OA} {w:World} (hb:0<base) (hN:l.length≤1048576) (h:OwnT vBr Brt.marks StrC 1 6 2 60 base top w (.slice a l.length q) l):∃ len,len≤12*wS Ct l∧LA 40 44 (.slice a l.length q) w base top len:=by
 obtain ⟨W,hA,hW,hk⟩:=h;obtain ⟨cs,h1,h2,h3⟩:=hA;rcases h1.2 with ⟨hv,_⟩ | ⟨g,cap,cur,hv,_⟩
 ·have hl:l.length=0:=by injection hv
  rw [hl];exact ⟨0,zL,LA.nilBrt a q w base top⟩
 ·have ea:a=some ⟨g,0,none⟩:=by injection hv
  subst ea;obtain ⟨ea,ns,ec,hAn,hnn,hs,hg⟩:=AnW.of (fun _ _ _ _ h=>h.cells) (by omega) Oo oH hb (⟨cs,h1,h2,h3⟩:OwnA vBr Brt.marks StrC 1 6 2 60 base W (.slice (some ⟨g,0,none⟩) l.length q) l);have hc:=Wj hAn hnn l.length nL;rw [List.take_length] at hc;have hu:=Wc l;have hw:wS Ct l=l.length+(l.map Ct).sum:=rfl;refine ⟨_,by omega,(LA.brt hAn ⟨hg,lL hAn.lt hW⟩ (fun j b o hj hn e=>⟨(hs j b o hj hn e).1,lL (hs j b o hj hn e).2 hW⟩) hN q).at ⟨hk.1,fun x h1 _ h3 o=>⟨World.cell?_of_block (a:=⟨x,o,none⟩) (hk.2 x h1 h3),World.frozen?_of_block (a:=⟨x,o,none⟩) (hk.2 x h1 h3)⟩⟩⟩
theorem jK {l:List Cpy} {base q:Nat} {a:OA} {w:World} (hb:0<base) (hN:l.length≤1048576) (h:Oj base w (.slice a l.length q) l):∃ len,len≤12*wS Cl l∧LA 42 46 (.slice a l.length q) w base w.heap.size len:=by
 obtain ⟨cs,h1,h2,h3⟩:=h;rcases h1.2 with ⟨hv,_⟩ | ⟨g,cap,cur,hv,_⟩
 ·have hl:l.length=0:=by injection hv
  rw [hl];exact ⟨0,zL,LA.nilCpy a q w base _⟩
 ·have ea:a=some ⟨g,0,none⟩:=by injection hv
  subst ea;obtain ⟨ea,ns,ec,hAn,hnn,hs,hg⟩:=AnW.of (fun _ _ _ _ h=>h.cells) (by omega) Il oL hb (⟨cs,h1,h2,h3⟩:OwnA vCp Cpy.likes LikC 2 12 7 55 base w (.slice (some ⟨g,0,none⟩) l.length q) l);have hc:=Wl hAn hnn l.length nL;rw [List.take_length] at hc;have hu:=Wx l;have hw:wS Cl l=l.length+(l.map Cl).sum:=rfl;exact ⟨_,by omega,LA.cpy hAn ⟨hg,hAn.lt⟩ hs hN q⟩
theorem cS {l:List Svc} {base top q:Nat} {a:OA} {w:World} (h:w.ownsRow base 103 2 (.slice a l.length q) l.length (Dq l)) (ht:∀ b,(Value.slice a l.length q).ownBlock=some b→b<top):∃ len,len≤12*wS Dj l∧LA 41 45 (.slice a l.length q) w base top len:=by
 rcases h.2 with ⟨hv,_⟩ | ⟨g,cap,cur,hv,_⟩
 ·have hl:l.length=0:=by injection hv
  rw [hl];exact ⟨0,zL,LA.nilSvc a q w base top⟩
 ·have ea:a=some ⟨g,0,none⟩:=by injection hv
  subst ea;obtain ⟨hg1,hg2⟩:=h.lt g rfl;refine ⟨_,by have hw:wS Dj l=l.length+(l.map Dj).sum:=rfl;omega,LA.svc ⟨fun t ht=>?_,fun p=>h.frozenAt p⟩ hg2 ⟨hg1,ht g rfl⟩ q⟩;have hl:=Fv l;refine ⟨(Dq l)[t]'(by omega),?_⟩;rw [Nat.zero_add];exact (h.cellAt t ht).trans (gE (by omega))
theorem NwRes.la {x:Flt} {w w':World} {e:Ending} (h:NwRes x w e w') (hlb:x.berths.length≤1048576) (hlc:x.copies.length≤1048576):∃ (v:Value) (B len:Nat),e=.returned v∧w.heap.size≤B∧B≤w'.heap.size∧len≤12*Ek x∧LA 12 14 v w' B w'.heap.size len:=by
 obtain ⟨g1,q1,g2,q2,g3,q3,B1,B2,B3,he,h0,h1,h2,h3,h4,hT,_,hs,ht,hc,_⟩:=h;obtain ⟨n1,b1,l1⟩:=kA h0 hlb hT;obtain ⟨n2,b2,l2⟩:=cS hs ht;obtain ⟨n3,b3,l3⟩:=jK (by omega) hlc hc;exact ⟨_,B1,_,he,h1,by omega,by unfold Ek;omega,LA.flt ⟨_,_,_,rfl⟩ ⟨_,_,_,rfl⟩ ⟨_,_,_,rfl⟩ l1 l2 l3 h2 h3 h4 nL⟩
end Go.Proofs.YtjoeojhdkoidbaaGreat
