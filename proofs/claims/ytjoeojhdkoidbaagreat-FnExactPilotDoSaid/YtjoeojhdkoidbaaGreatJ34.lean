import Derived.Test.YtjoeojhdkoidbaaGreatJ33
set_option maxHeartbeats 4000000
namespace Go.Proofs.YtjoeojhdkoidbaaGreat
open Tryz
set_option maxRecDepth 100000
open Go.RowKit Tryz
section
variable {α β:Type} {V:α→Value→List Value} {sub:α→List β} {C:Ej β} {m n f:Nat}
def ApN (n f:Nat) (cs:List Value) (len:Nat):Prop :=
 ∀ (i j b o k c b' o' k' c':Nat),i<j→j<len→cs[i*n+f]?=some (.slice (some ⟨b,o,none⟩) k c)→cs[j*n+f]?=some (.slice (some ⟨b',o',none⟩) k' c')→0<k→0<k'→b≠b'
structure PAt (V:α→Value→List Value) (sub:α→List β) (C:Ej β) (m n f base lo N g:Nat) (W w:World) (cs:List Value) (l:List α) (k:Nat):Prop where
 new:∀ j x,j<k→l[j]?=some x→∃ (ae:OA) (ce:Nat),(∀ i u,(V x (.slice ae (sub x).length ce))[i]?=some u→cs[j*n+i]?=some u)∧SliceC C m base w ae (sub x)∧∀ b o,ae=some ⟨b,o,none⟩→sub x≠[]→b≠g∧b<N
 old:∀ j x,k≤j→l[j]?=some x→∃ (ae:OA) (ce:Nat),(∀ i u,(V x (.slice ae (sub x).length ce))[i]?=some u→cs[j*n+i]?=some u)∧SliceC C m lo W ae (sub x)
 apart:ApN n f cs k
theorem PAt.below {base lo N N' g:Nat} {W w w':World} {cs:List Value} {l:List α} {k:Nat} (hC:Er C m) (h:PAt V sub C m n f base lo N g W w cs l k) (hb:Below w.heap.size w w') (hN:N≤N'):PAt V sub C m n f base lo N' g W w' cs l k:=by
 refine ⟨fun j x hj hx=>?_,h.old,h.apart⟩;obtain ⟨ae,ce,q1,q2,q3⟩:=h.new j x hj hx;exact ⟨ae,ce,q1,q2.below hC hb nL,fun b o e hn=>⟨(q3 b o e hn).1,lL (q3 b o e hn).2 hN⟩⟩
theorem PAt.step {base lo N N' g:Nat} {W w:World} {cs:List Value} {l:List α} {k:Nat} {x:α} {ae:OA} {ce:Nat} (hC:FlatC C m) (hV:∀ x s,(V x s).length=n) (hf:∀ x s,(V x s)[f]?=some s)
  (h:PAt V sub C m n f base lo N g W w cs l k) (hx:l[k]?=some x) (hl:cs.length=l.length*n) (hs:SliceC C m base w ae (sub x)) (hb:∀ b o,ae=some ⟨b,o,none⟩→sub x≠[]→N≤b∧b≠g∧b<N') (hN:N≤N') :
  PAt V sub C m n f base lo N' g W (w.setCells g (k*n) (V x (.slice ae (sub x).length ce))) (Cu cs (k*n) (V x (.slice ae (sub x).length ce))) l (k+1):=by
 have hkl:=Ah hx;have hn:f<n:=by have:=Ah (hf x (.slice none 0 0));rwa [hV] at this
 have hkn:(k+1)*n≤l.length*n:=Nat.mul_le_mul_right n (by omega);rw [Nat.add_mul] at hkn;have out:∀ j i,i<n→j≠k→(Cu cs (k*n) (V x (.slice ae (sub x).length ce)))[j*n+i]?=cs[j*n+i]?:=by
  intro j i hi hj;refine Jr _ _ _ _ ?_;rw [hV];rcases Nat.lt_or_ge j k with h1 | h1
  ·have:(j+1)*n≤k*n:=Nat.mul_le_mul_right n (by omega)
   rw [Nat.add_mul] at this;omega
  ·have:(k+1)*n≤j*n:=Nat.mul_le_mul_right n (by omega)
   rw [Nat.add_mul] at this;omega
 have inn:∀ i,i<n→(Cu cs (k*n) (V x (.slice ae (sub x).length ce)))[k*n+i]?=(V x (.slice ae (sub x).length ce))[i]?:=by
  intro i hi;exact Ph _ _ _ _ (by rw [hV];omega) (by rw [hV];exact hi)
 refine ⟨fun j y hj hy=>?_,fun j y hj hy=>?_,?_⟩
 ·by_cases e:j=k
  ·subst e
   rw [hx] at hy;cases hy
   refine ⟨ae,ce,fun i u hu=>?_,Bj hC hs (Cb _ _ _) (fun b o e hne e2=>by cases e2;exact (hb _ o e hne).2.1 rfl),fun b o e hne=>⟨(hb b o e hne).2.1,(hb b o e hne).2.2⟩⟩;have hi:i<n:=by have:=Ah hu;rwa [hV] at this
   rw [inn i hi];exact hu
  ·obtain ⟨ae',ce',q1,q2,q3⟩:=h.new j y (by omega) hy
   refine ⟨ae',ce',fun i u hu=>?_,Bj hC q2 (Cb _ _ _) (fun b o e hne e2=>by cases e2;exact (q3 _ o e hne).1 rfl),fun b o e hne=>⟨(q3 b o e hne).1,lL (q3 b o e hne).2 hN⟩⟩;have hi:i<n:=by have:=Ah hu;rwa [hV] at this
   rw [out j i hi e];exact q1 i u hu
 ·obtain ⟨ae',ce',q1,q2⟩:=h.old j y (by omega) hy
  refine ⟨ae',ce',fun i u hu=>?_,q2⟩;have hi:i<n:=by have:=Ah hu;rwa [hV] at this
  rw [out j i hi (by omega)];exact q1 i u hu
 ·intro i j b o p c b' o' p' c' hij hj hci hcj hp hp'
  rw [out i f hn (by omega)] at hci;by_cases e:j=k
  ·subst e
   rw [inn f hn,hf] at hcj;obtain ⟨y,hy⟩:∃ y,l[i]?=some y:=⟨l[i]'(by omega),gE (by omega)⟩;obtain ⟨ae',ce',q1,_,q3⟩:=h.new i y hij hy;have h1:=q1 f _ (hf y _);rw [hci] at h1;cases h1
   cases hcj
   have h2:=(q3 b o rfl (fun e=>by rw [e] at hp;cases hp)).2;have h3:=(hb b' o' rfl (fun e=>by rw [e] at hp';cases hp')).1;omega
  ·rw [out j f hn e] at hcj
   exact h.apart i j b o p c b' o' p' c' hij (by omega) hci hcj hp hp'
def OwnA (V:α→Value→List Value) (sub:α→List β) (C:Ej β) (m n f:Nat) (T:TypeId) (base:Nat) (w:World) (v:Value) (l:List α):Prop :=
 ∃ cs,w.ownsRow base T n v l.length cs∧NAt V sub C m n base v w cs l∧ApN n f cs l.length
theorem OwnA.own {T:TypeId} {base:Nat} {w:World} {v:Value} {l:List α} (h:OwnA V sub C m n f T base w v l):OwnN V sub C m n T base w v l:=by
 obtain ⟨cs,h1,h2,_⟩:=h;exact ⟨cs,h1,h2⟩
theorem OwnA.nil {T:TypeId} {base:Nat} {w:World}:OwnA V sub C m n f T base w (.slice none 0 0) []:=⟨[],World.ownsRow_nil _ _ _ _,fun j x h=>(by cases h),fun i j _ _ _ _ _ _ _ _ _ h=>absurd h (Nat.not_lt_zero _)⟩
theorem OwnA.below {T:TypeId} {base:Nat} {w w':World} {v:Value} {l:List α} (hC:Er C m) (h:OwnA V sub C m n f T base w v l) (hb:Below w.heap.size w w'):OwnA V sub C m n f T base w' v l:=by
 obtain ⟨cs,h1,h2,h3⟩:=h;refine ⟨cs,Ap h1 hb,fun j x hj=>?_,h3⟩;obtain ⟨ae,ce,q1,q2,q3⟩:=h2 j x hj;exact ⟨ae,ce,q1,q2.below hC hb nL,fun b o e hn=>⟨(q3 b o e hn).1,lL (q3 b o e hn).2 hb.size⟩⟩
theorem OwnA.mono {T:TypeId} {base base':Nat} {w:World} {v:Value} {l:List α} (hC:Er C m) (h:OwnA V sub C m n f T base w v l) (hb:base'≤base):OwnA V sub C m n f T base' w v l:=by
 obtain ⟨cs,h1,h2,h3⟩:=h;refine ⟨cs,Mf h1 hb,fun j x hj=>?_,h3⟩;obtain ⟨ae,ce,q1,q2,q3⟩:=h2 j x hj;exact ⟨ae,ce,q1,q2.keep hC (Keeps.refl _ _) hb,q3⟩
theorem PAt.done {base lo N g q:Nat} {W w:World} {cs:List Value} {l:List α} {T:TypeId} (h:PAt V sub C m n f base lo N g W w cs l l.length) (hN:N≤w.heap.size) (ho:w.ownsRow base T n (.slice (some ⟨g,0,none⟩) l.length q) l.length cs):OwnA V sub C m n f T base w (.slice (some ⟨g,0,none⟩) l.length q) l:=by
 refine ⟨cs,ho,fun j x hj=>?_,h.apart⟩;obtain ⟨ae,ce,q1,q2,q3⟩:=h.new j x (Ah hj) hj;exact ⟨ae,ce,q1,q2,fun b o e hn=>⟨fun e2=>(q3 b o e hn).1 (by cases e2;rfl),lL (q3 b o e hn).2 hN⟩⟩
theorem bA {lo:Nat} {w:World} {ad:Addr} (hV:∀ x s,(V x s).length=n) (hO:∀ x a p c,∀ u∈V x (.slice a p c),u.oneCell'=true) (l:List α)
  (h:∀ j x,l[j]?=some x→∃ (ae:OA) (ce:Nat),(∀ i u,(V x (.slice ae (sub x).length ce))[i]?=some u→w.cell? (ad.add (j*n+i))=some u)∧SliceC C m lo w ae (sub x)) :
  ∃ cs:List Value,cs.length=l.length*n∧(∀ j u,cs[j]?=some u→w.cell? (ad.add j)=some u)∧(∀ u∈cs,u.oneCell'=true)∧∀ j x,l[j]?=some x→∃ (ae:OA) (ce:Nat),(∀ i u,(V x (.slice ae (sub x).length ce))[i]?=some u→cs[j*n+i]?=some u)∧SliceC C m lo w ae (sub x):=by
 suffices hk:∀ k,k≤l.length→∃ cs:List Value,cs.length=k*n∧(∀ j u,cs[j]?=some u→w.cell? (ad.add j)=some u)∧(∀ u∈cs,u.oneCell'=true)∧∀ j x,j<k→l[j]?=some x→∃ (ae:OA) (ce:Nat),(∀ i u,(V x (.slice ae (sub x).length ce))[i]?=some u→cs[j*n+i]?=some u)∧SliceC C m lo w ae (sub x) by
  obtain ⟨cs,h1,h2,h3,h4⟩:=hk l.length nL;exact ⟨cs,h1,h2,h3,fun j x hj=>h4 j x (Ah hj) hj⟩
 intro k
 induction k with
 | zero=>exact fun _=>⟨[],by simp,fun j u hu=>(by cases hu),fun u hu=>(by cases hu),fun j x hj=>absurd hj (Nat.not_lt_zero _)⟩
 | succ k ih =>
  intro hk;obtain ⟨cs,h1,h2,h3,h4⟩:=ih (by omega);obtain ⟨x,hx⟩:∃ x,l[k]?=some x:=⟨l[k]'(by omega),gE (by omega)⟩;obtain ⟨ae,ce,q1,q2⟩:=h k x hx;refine ⟨cs++V x (.slice ae (sub x).length ce),by rw [List.length_append,h1,hV,Nat.add_mul];omega,fun j u hu=>?_,fun u hu=>?_,fun j y hj hy=>?_⟩
  ·by_cases hlt:j<cs.length
   ·rw [List.getElem?_append_left hlt] at hu
    exact h2 j u hu
   ·rw [List.getElem?_append_right (by omega)] at hu
    have:=q1 _ u hu
    rwa [show k*n+(j - cs.length)=j by omega] at this
  ·rcases List.mem_append.1 hu with hu | hu
   ·exact h3 u hu
   ·exact hO x ae _ ce u hu
  ·by_cases e:j=k
   ·subst e
    rw [hx] at hy;cases hy
    refine ⟨ae,ce,fun i u hu=>?_,q2⟩;rw [List.getElem?_append_right (by omega),h1,Nat.add_sub_cancel_left];exact hu
   ·obtain ⟨ae',ce',p1,p2⟩:=h4 j y (by omega) hy
    refine ⟨ae',ce',fun i u hu=>?_,p2⟩;have hi:=Ah (p1 i u hu);rw [List.getElem?_append_left hi];exact p1 i u hu
end
theorem oH (x:Brt) (s:Value):(vBr x s)[2]?=some s:=rfl
theorem oL (x:Cpy) (s:Value):(vCp x s)[7]?=some s:=rfl
theorem sB (x:Brt) (a:OA) (p c:Nat):∀ u∈vBr x (.slice a p c),u.oneCell'=true:=by
 intro u hu;simp only [vBr,List.mem_cons,List.not_mem_nil,or_false] at hu;rcases hu with rfl | rfl | rfl | rfl | rfl | rfl <;> rfl
theorem rR (x:Cpy) (a:OA) (p c:Nat):∀ u∈vCp x (.slice a p c),u.oneCell'=true:=by
 intro u hu;simp only [vCp,List.mem_cons,List.not_mem_nil,or_false] at hu;rcases hu with rfl | rfl | rfl | rfl | rfl | rfl | rfl | rfl | rfl | rfl | rfl | rfl <;> rfl
abbrev nS (base:Nat) (w:World) (v:Value) (l:List Brt):Prop:=OwnA vBr Brt.marks StrC 1 6 2 60 base w v l
abbrev Oj (base:Nat) (w:World) (v:Value) (l:List Cpy):Prop:=OwnA vCp Cpy.likes LikC 2 12 7 55 base w v l
theorem nC {lo:Nat} {w:World} {ad:Addr} {l:List Brt} (h:SliceC BrtC 6 lo w (some ad) l):∃ cs:List Value,cs.length=l.length*6∧(∀ j u,cs[j]?=some u→w.cell? (ad.add j)=some u)∧(∀ u∈cs,u.oneCell'=true)∧∀ j x,l[j]?=some x→∃ (ae:OA) (ce:Nat),(∀ i u,(vBr x (.slice ae x.marks.length ce))[i]?=some u→cs[j*6+i]?=some u)∧SliceC StrC 1 lo w ae x.marks:=by
 refine bA Oo sB l (fun j x hj=>?_);obtain ⟨b,o,e,_,_,hc⟩:=h.at hj;cases e
 obtain ⟨ae,ce,q0,q1,q2,q3,q4,q5,_,_,hs⟩:=hc;refine ⟨ae,ce,fun i u hu=>?_,hs⟩;have hi:i<6:=Ah hu;rw [Addr.add_mid,← Nat.add_assoc];rcases (by omega:i=0∨i=1∨i=2∨i=3∨i=4∨i=5) with rfl | rfl | rfl | rfl | rfl | rfl <;> (cases hu;assumption)
theorem oY {lo:Nat} {w:World} {ad:Addr} {l:List Cpy} (h:SliceC CpyC 12 lo w (some ad) l):∃ cs:List Value,cs.length=l.length*12∧(∀ j u,cs[j]?=some u→w.cell? (ad.add j)=some u)∧(∀ u∈cs,u.oneCell'=true)∧∀ j x,l[j]?=some x→∃ (ae:OA) (ce:Nat),(∀ i u,(vCp x (.slice ae x.likes.length ce))[i]?=some u→cs[j*12+i]?=some u)∧SliceC LikC 2 lo w ae x.likes:=by
 refine bA Il rR l (fun j x hj=>?_);obtain ⟨b,o,e,_,_,hc⟩:=h.at hj;cases e
 obtain ⟨ae,ce,q0,q1,q2,q3,q4,q5,q6,q7,q8,q9,q10,q11,_,_,_,_,_,_,hs⟩:=hc;refine ⟨ae,ce,fun i u hu=>?_,hs⟩;have hi:i<12:=Ah hu;rw [Addr.add_mid,← Nat.add_assoc];rcases (by omega:i=0∨i=1∨i=2∨i=3∨i=4∨i=5∨i=6∨i=7∨i=8∨i=9∨i=10∨i=11) with rfl | rfl | rfl | rfl | rfl | rfl | rfl | rfl | rfl | rfl | rfl | rfl <;> (cases hu;assumption)
def SmB (l:List Brt):Prop:=∀ x∈l,x.marks.length≤1048576∧Xf x.marks 1048576∧x.name.size≤1048576∧x.zone.size≤1048576
def SmC (l:List Cpy):Prop:=∀ x∈l,x.likes.length≤1048576∧Wd x.likes 1048576∧x.name.size≤1048576∧x.service.size≤1048576∧x.select.size≤1048576∧x.near.size≤1048576∧x.fixed.size≤1048576∧x.at_.size≤1048576
theorem lD (xs:List Brt) (ad:Addr) (cap lo:Nat) (w:World) (hin:SliceC BrtC 6 lo w (some ad) xs) (hsm:xs.length≤1048576) :
  Calls prog 105 #[.slice (some ad) xs.length cap] w fun e w'=>∃ g c cs,e=.returned (.slice (some ⟨g,0,none⟩) xs.length c)∧w'.ownsRow w.heap.size 60 6 (.slice (some ⟨g,0,none⟩) xs.length c) xs.length cs∧(∀ j x,xs[j]?=some x→∃ (ae:OA) (ce:Nat),(∀ i u,(vBr x (.slice ae x.marks.length ce))[i]?=some u→cs[j*6+i]?=some u)∧SliceC StrC 1 lo w ae x.marks)∧Below w.heap.size w w':=by
 obtain ⟨i0,hi,hz0,hz1,hz2⟩:=info_parts Tx;have q22:∀ (w:World) (a:OA) (n c n' c':Nat),(binOp .eql 32 (.slice a n c) (.slice none n' c')).run prog w=.ok (.bool a.isNone) w:=fun w a n c n' c'=>Lib.run_eql_slice_nil w _ _ a n c n' c' underlying32
 obtain ⟨cs,hcl,hcs,hc1,hcb⟩:=nC hin;have HCL:=iH hcl;have HS:=iH hcs;have HC1:=iH hc1;have HCB:=iH hcb;clear hin hcl hcs hc1 hcb;go_enter func105,ntmps105;go_wp2_with (at_builtin;refine wpList_append_own _ rfl _ _ 32 rfl w.heap.size 60 i0 _ 6 80 underlying32 hi hz0 hz1 hz2 rfl (by decide) _ _ _ rfl (World.ownsRow_made w #[] 0 nL (zL) rfl) ad xs.length _ cs rfl HCL (fun j u hj=>Lib.cell?_alloc_some _ (HS j u hj)) HC1 (by unfold maxLen;omega) (by omega) (by simp) ?_;intro v' w1 hown hgrow hnil);have hv:v'≠.slice none 0 0:=fun e=>by have:=(hnil.1 e).1;cases this
 have hown':w1.ownsRow w.heap.size 60 6 v' xs.length cs:=by simpa using hown
 obtain ⟨g,c,rfl⟩:=Vh hown' hv;have HO:=iH hown';have hB:Below w.heap.size w w1:=((Below.refl _ w).alloc nL _).grown hgrow (by simp) (by intro k hk;cases hk;exact Nat.le_refl _);clear hown hgrow hnil hv hown';go_wp2_with fail;go_ret;exact ⟨g,c,cs,rfl,HO,HCB,hB⟩
theorem fZ (cap:Nat) (w:World) :
  Calls prog 105 #[.slice none 0 cap] w (Rt (.slice none 0 0) w):=by
 have q22:∀ (w:World) (a:OA) (n c n' c':Nat),(binOp .eql 32 (.slice a n c) (.slice none n' c')).run prog w=.ok (.bool a.isNone) w:=fun w a n c n' c'=>Lib.run_eql_slice_nil w _ _ a n c n' c' underlying32
 go_enter func105,ntmps105;go_wp2_with fail;go_ret;exact ⟨rfl,Below.refl _ _⟩
theorem fD (f:Value) (cap:Nat) (w:World) :
  Calls prog 71 #[.slice none 0 cap,f] w (Rt (.slice none 0 0) w):=by
 go_enter func71,ntmps71;go_wp2_with fail;refine (fZ cap _).mono ?_;rintro e w1 ⟨rfl,hb⟩;have HB:=iH hb;clear hb;go_wp2_with fail;go_loopw [11] (fun i wr=>i=.int .i64 0∧Below w.heap.size w wr) (fun i _=>0)
 case atStart=>exact ⟨rfl,HB⟩
 case round =>
  obtain ⟨rfl,hB⟩:=hrel;go_wp2_with fail;go_ret;exact ⟨rfl,hB⟩
theorem lB (xs:List Brt) (ad:Addr) (cap lo:Nat) (w:World) (hin:SliceC BrtC 6 lo w (some ad) xs) (hsm:xs.length≤1048576) (hz:SmB xs) :
  Calls prog 71 #[.slice (some ad) xs.length cap,.func (.func 72) #[] #[]] w fun e w'=>∃ g q,e=.returned (.slice (some ⟨g,0,none⟩) xs.length q)∧nS w.heap.size w' (.slice (some ⟨g,0,none⟩) xs.length q) xs∧Below w.heap.size w w':=by
 have HI:=iH hin;have HZ:=iH hz;clear hin hz;go_enter func71,ntmps71;go_wp2_with fail;refine (lD xs ad cap lo _ HI hsm).mono ?_;rintro e w1 ⟨g,q,cs,rfl,hO1,hcb,hB1⟩;have HO1:=iH hO1;have HP1:Hid (PAt vBr Brt.marks StrC 1 6 2 w.heap.size lo w1.heap.size g w w1 cs xs 0):=⟨fun j x hj=>absurd hj (Nat.not_lt_zero _),fun j x _ hj=>hcb j x hj,fun i j _ _ _ _ _ _ _ _ _ h=>absurd h (Nat.not_lt_zero _)⟩;clear hO1 hcb;go_wp2_with fail;go_loopw [11] (fun i wr=>∃ (k:Nat) (cs:List Value),k≤xs.length∧i=.int .i64 k∧Hid (wr.ownsRow w.heap.size 60 6 (.slice (some ⟨g,0,none⟩) xs.length q) xs.length cs)∧Hid (PAt vBr Brt.marks StrC 1 6 2 w.heap.size lo wr.heap.size g w wr cs xs k)∧Below w.heap.size w wr) (fun i _=>xs.length - (intOf i).toNat)
 case atStart=>exact ⟨0,cs,zL,rfl,HO1,HP1,hB1⟩
 case round =>
  clear HO1 HP1 hB1;obtain ⟨k,cs,hk,rfl,HO,HP,hB⟩:=hrel;by_cases hlt:k<xs.length
  ·obtain ⟨x,hx⟩:=gXe hlt
   have HXX:=iH hx;have Z:=iH (HZ x (List.mem_of_getElem? hx));have hgl:g<wr.heap.size:=(HO.out.lt g rfl).2;have hgb:w.heap.size≤g:=cT HO;have hcl:cs.length=xs.length*6:=HO.out.1;obtain ⟨am,cm,hqc,hsm0⟩:=HP.out.old k x nL hx;have HSM:=iH hsm0;have HRA:Hid (wr.rangeAt g (k*6) (bbL x am cm)):=fun j v hv=>by
    have hj:j<6:=Ah hv;have h1:=HO.out.cellAt (k*6+j) (by omega);rw [hqc j v hv] at h1;exact h1
   clear hx hqc hsm0;have hza:=Blk.alloc wr BbA 60;have HTS:Hid ((wr.alloc (Obj.cells BbA 60)).there wr.heap.size 0 6):=hza.there;obtain ⟨w4,HW4⟩:∃ w4,Hid (w4=(wr.alloc (Obj.cells BbA 60)).setCells wr.heap.size 0 (bbL x am cm)):=⟨_,rfl⟩;have HK4:Hid (Blk wr.heap.size (bbA x am cm) 60 w4):=by
    show Blk _ _ _ _
    rw [HW4.out];exact hza.setAll (bbA x am cm) rfl
   have hbx:Below wr.heap.size wr w4:=by
    rw [HW4.out];exact Ad nL _ _ _ ((Below.refl _ wr).alloc nL _)
   have hB4:=qTr hB hbx;have HBX:=iH hbx;have hs4:wr.heap.size≤w4.heap.size:=hbx.size;clear hza hbx hB;go_upto_region 5 with (first | (refine qLr Ji HRA ?_) | (refine Ag rfl 60 _ _ rfl wr.heap.size 0 (bbA x am cm) rfl rfl HTS Bd (by simp [Value.oneCell']) w4 HW4 ?_));clear HRA HTS HW4;go_wp2_with (first | (refine qLk Ji HK4 ?_));refine (mK x am cm lo _ (HSM.out.below StrC.holds hB4 nL) Z.out.1 Z.out.2.1 Z.out.2.2.1 Z.out.2.2.2).mono ?_;rintro e w5 ⟨gm,qm,rfl,hOm,hb5⟩;have hsn:=cH hOm Z.out.1 (Rf HSM);have hB5:=qTr hB4 hb5;have hBr:=HBX.out.trans (hb5.mono hs4);have HO5:=iH (Ap HO hBr);have HP5:=iH (HP.out.below StrC.holds hBr nL);have HT5:Hid (w5.there g (k*6) 6):=Di HO5 (by omega);obtain ⟨w6,HW6⟩:∃ w6,Hid (w6=w5.setCells g (k*6) (vBr x (.slice gm x.marks.length qm))):=⟨_,rfl⟩;have hs6:w6.heap.size=w5.heap.size:=by rw [HW6.out,Bb]
   have HO6:Hid (w6.ownsRow w.heap.size 60 6 (.slice (some ⟨g,0,none⟩) xs.length q) xs.length (Cu cs (k*6) (vBr x (.slice gm x.marks.length qm)))):=by
    have h:=Ds (vBr x (.slice gm x.marks.length qm)) _ (k*6) _ HO5;rw [← HW6.out] at h;exact h
   have HP6:Hid (PAt vBr Brt.marks StrC 1 6 2 w.heap.size lo w6.heap.size g w w6 (Cu cs (k*6) (vBr x (.slice gm x.marks.length qm))) xs (k+1)):=by
    have h:=PAt.step (N':=w6.heap.size) (ae:=gm) (ce:=qm) StrC.flat Oo oH HP5 HXX hcl (hsn.keep StrC.holds (Keeps.refl _ _) (by have:=hB4.size;omega)) (fun b o e hn=>by
     rcases hsn.2 with h9 | ⟨b',o',e',⟨h8,_⟩,h7,_⟩
     ·exact absurd h9 hn
     ·rw [e] at e'
      cases e'
      omega) (by have:=hBr.size;omega)
    rw [← HW6.out] at h;exact h
   have hB6:Below w.heap.size w w6:=by
    rw [HW6.out];exact Ad hgb _ _ _ hB5
   unfold vBr at HW6;clear hB5 HO5 HP5 hB4 HBX hs4 hb5 hOm hsn hBr hs6 HK4 HO HP;have i0:(0:Int)≤(k:Int):=by omega
   have i1:(k:Int)<(xs.length:Int):=by omega
   go_wp2_with (first | (refine Ag rfl 60 _ _ rfl g (k*6) (bbA x gm qm) (by first | rfl | (simp [go_sem];done)) rfl HT5 Bd (by simp [Value.oneCell']) w6 HW6 ?_));go_roundw
   case rel=>exact ⟨k+1,_,by omega,by go_num,HO6,HP6,hB6⟩
   case measure=>simp [intOf];omega
  ·have hke:k=xs.length:=by omega
   subst hke;go_wp2_with fail;go_ret;exact ⟨g,q,rfl,HP.out.done nL HO,hB⟩
theorem aL (xs:List Brt) (a:OA) (cap lo:Nat) (w:World) (hin:SliceC BrtC 6 lo w a xs) (hsm:xs.length≤1048576) (hz:SmB xs) :
  Calls prog 71 #[.slice a xs.length cap,.func (.func 72) #[] #[]] w fun e w'=>∃ g q,e=.returned (.slice g xs.length q)∧nS w.heap.size w' (.slice g xs.length q) xs∧Below w.heap.size w w':=by
 cases a with
 | none =>
  have h0:xs=[]:=List.length_eq_zero_iff.1 (hin.nilD rfl);subst h0;refine (fD _ cap w).mono ?_;rintro e w1 ⟨rfl,hb⟩;exact ⟨none,0,rfl,OwnA.nil,hb⟩
 | some ad =>
  refine (lB xs ad cap lo w hin hsm hz).mono ?_;rintro e w1 ⟨g,q,rfl,hO,hb⟩;exact ⟨some ⟨g,0,none⟩,q,rfl,hO,hb⟩
theorem mE (xs:List Cpy) (ad:Addr) (cap lo:Nat) (w:World) (hin:SliceC CpyC 12 lo w (some ad) xs) (hsm:xs.length≤1048576) :
  Calls prog 109 #[.slice (some ad) xs.length cap] w fun e w'=>∃ g c cs,e=.returned (.slice (some ⟨g,0,none⟩) xs.length c)∧w'.ownsRow w.heap.size 55 12 (.slice (some ⟨g,0,none⟩) xs.length c) xs.length cs∧(∀ j x,xs[j]?=some x→∃ (ae:OA) (ce:Nat),(∀ i u,(vCp x (.slice ae x.likes.length ce))[i]?=some u→cs[j*12+i]?=some u)∧SliceC LikC 2 lo w ae x.likes)∧Below w.heap.size w w':=by
 obtain ⟨i0,hi,hz0,hz1,hz2⟩:=info_parts Ub;have q22:∀ (w:World) (a:OA) (n c n' c':Nat),(binOp .eql 34 (.slice a n c) (.slice none n' c')).run prog w=.ok (.bool a.isNone) w:=fun w a n c n' c'=>Lib.run_eql_slice_nil w _ _ a n c n' c' underlying34
 obtain ⟨cs,hcl,hcs,hc1,hcb⟩:=oY hin;have HCL:=iH hcl;have HS:=iH hcs;have HC1:=iH hc1;have HCB:=iH hcb;clear hin hcl hcs hc1 hcb;go_enter func109,ntmps109;go_wp2_with (at_builtin;refine wpList_append_own _ rfl _ _ 34 rfl w.heap.size 55 i0 _ 12 160 underlying34 hi hz0 hz1 hz2 rfl (by decide) _ _ _ rfl (World.ownsRow_made w #[] 0 nL (zL) rfl) ad xs.length _ cs rfl HCL (fun j u hj=>Lib.cell?_alloc_some _ (HS j u hj)) HC1 (by unfold maxLen;omega) (by omega) (by simp) ?_;intro v' w1 hown hgrow hnil);have hv:v'≠.slice none 0 0:=fun e=>by have:=(hnil.1 e).1;cases this
 have hown':w1.ownsRow w.heap.size 55 12 v' xs.length cs:=by simpa using hown
 obtain ⟨g,c,rfl⟩:=Vh hown' hv;have HO:=iH hown';have hB:Below w.heap.size w w1:=((Below.refl _ w).alloc nL _).grown hgrow (by simp) (by intro k hk;cases hk;exact Nat.le_refl _);clear hown hgrow hnil hv hown';go_wp2_with fail;go_ret;exact ⟨g,c,cs,rfl,HO,HCB,hB⟩
theorem dQ (cap:Nat) (w:World) :
  Calls prog 109 #[.slice none 0 cap] w (Rt (.slice none 0 0) w):=by
 have q22:∀ (w:World) (a:OA) (n c n' c':Nat),(binOp .eql 34 (.slice a n c) (.slice none n' c')).run prog w=.ok (.bool a.isNone) w:=fun w a n c n' c'=>Lib.run_eql_slice_nil w _ _ a n c n' c' underlying34
 go_enter func109,ntmps109;go_wp2_with fail;go_ret;exact ⟨rfl,Below.refl _ _⟩
theorem fA (f:Value) (cap:Nat) (w:World) :
  Calls prog 75 #[.slice none 0 cap,f] w (Rt (.slice none 0 0) w):=by
 go_enter func75,ntmps75;go_wp2_with fail;refine (dQ cap _).mono ?_;rintro e w1 ⟨rfl,hb⟩;have HB:=iH hb;clear hb;go_wp2_with fail;go_loopw [11] (fun i wr=>i=.int .i64 0∧Below w.heap.size w wr) (fun i _=>0)
 case atStart=>exact ⟨rfl,HB⟩
 case round =>
  obtain ⟨rfl,hB⟩:=hrel;go_wp2_with fail;go_ret;exact ⟨rfl,hB⟩
theorem kV (xs:List Cpy) (ad:Addr) (cap lo:Nat) (w:World) (hin:SliceC CpyC 12 lo w (some ad) xs) (hsm:xs.length≤1048576) (hz:SmC xs) :
  Calls prog 75 #[.slice (some ad) xs.length cap,.func (.func 76) #[] #[]] w fun e w'=>∃ g q,e=.returned (.slice (some ⟨g,0,none⟩) xs.length q)∧Oj w.heap.size w' (.slice (some ⟨g,0,none⟩) xs.length q) xs∧Below w.heap.size w w':=by
 have HI:=iH hin;have HZ:=iH hz;clear hin hz;go_enter func75,ntmps75;go_wp2_with fail;refine (mE xs ad cap lo _ HI hsm).mono ?_;rintro e w1 ⟨g,q,cs,rfl,hO1,hcb,hB1⟩;have HO1:=iH hO1;have HP1:Hid (PAt vCp Cpy.likes LikC 2 12 7 w.heap.size lo w1.heap.size g w w1 cs xs 0):=⟨fun j x hj=>absurd hj (Nat.not_lt_zero _),fun j x _ hj=>hcb j x hj,fun i j _ _ _ _ _ _ _ _ _ h=>absurd h (Nat.not_lt_zero _)⟩;clear hO1 hcb;go_wp2_with fail;go_loopw [11] (fun i wr=>∃ (k:Nat) (cs:List Value),k≤xs.length∧i=.int .i64 k∧Hid (wr.ownsRow w.heap.size 55 12 (.slice (some ⟨g,0,none⟩) xs.length q) xs.length cs)∧Hid (PAt vCp Cpy.likes LikC 2 12 7 w.heap.size lo wr.heap.size g w wr cs xs k)∧Below w.heap.size w wr) (fun i _=>xs.length - (intOf i).toNat)
 case atStart=>exact ⟨0,cs,zL,rfl,HO1,HP1,hB1⟩
 case round =>
  clear HO1 HP1 hB1;obtain ⟨k,cs,hk,rfl,HO,HP,hB⟩:=hrel;by_cases hlt:k<xs.length
  ·obtain ⟨x,hx⟩:=gXe hlt
   have HXX:=iH hx;have Z:=iH (HZ x (List.mem_of_getElem? hx));have hgl:g<wr.heap.size:=(HO.out.lt g rfl).2;have hgb:w.heap.size≤g:=cT HO;have hcl:cs.length=xs.length*12:=HO.out.1;obtain ⟨am,cm,hqc,hsm0⟩:=HP.out.old k x nL hx;have HSM:=iH hsm0;have HRA:Hid (wr.rangeAt g (k*12) (ccL x am cm)):=fun j v hv=>by
    have hj:j<12:=Ah hv;have h1:=HO.out.cellAt (k*12+j) (by omega);rw [hqc j v hv] at h1;exact h1
   clear hx hqc hsm0;have hza:=Blk.alloc wr CcA 55;have HTS:Hid ((wr.alloc (Obj.cells CcA 55)).there wr.heap.size 0 12):=hza.there;obtain ⟨w4,HW4⟩:∃ w4,Hid (w4=(wr.alloc (Obj.cells CcA 55)).setCells wr.heap.size 0 (ccL x am cm)):=⟨_,rfl⟩;have HK4:Hid (Blk wr.heap.size (ccA x am cm) 55 w4):=by
    show Blk _ _ _ _
    rw [HW4.out];exact hza.setAll (ccA x am cm) rfl
   have hbx:Below wr.heap.size wr w4:=by
    rw [HW4.out];exact Ad nL _ _ _ ((Below.refl _ wr).alloc nL _)
   have hB4:=qTr hB hbx;have HBX:=iH hbx;have hs4:wr.heap.size≤w4.heap.size:=hbx.size;clear hza hbx hB;go_upto_region 5 with (first | (refine qLr Hf HRA ?_) | (refine Ag rfl 55 _ _ rfl wr.heap.size 0 (ccA x am cm) rfl rfl HTS Be (by simp [Value.oneCell']) w4 HW4 ?_));clear HRA HTS HW4;go_wp2_with (first | (refine qLk Hf HK4 ?_));refine (mS x am cm lo _ (HSM.out.below LikC.holds hB4 nL) Z.out.1 Z.out.2.1 Z.out.2.2.1 Z.out.2.2.2.1 Z.out.2.2.2.2.1 Z.out.2.2.2.2.2.1 Z.out.2.2.2.2.2.2.1 Z.out.2.2.2.2.2.2.2).mono ?_;rintro e w5 ⟨gm,qm,rfl,hOm,hb5⟩;have hsn:=cY hOm Z.out.1 (Rh HSM);have hB5:=qTr hB4 hb5;have hBr:=HBX.out.trans (hb5.mono hs4);have HO5:=iH (Ap HO hBr);have HP5:=iH (HP.out.below LikC.holds hBr nL);have HT5:Hid (w5.there g (k*12) 12):=Di HO5 (by omega);obtain ⟨w6,HW6⟩:∃ w6,Hid (w6=w5.setCells g (k*12) (vCp x (.slice gm x.likes.length qm))):=⟨_,rfl⟩;have hs6:w6.heap.size=w5.heap.size:=by rw [HW6.out,Bb]
   have HO6:Hid (w6.ownsRow w.heap.size 55 12 (.slice (some ⟨g,0,none⟩) xs.length q) xs.length (Cu cs (k*12) (vCp x (.slice gm x.likes.length qm)))):=by
    have h:=Ds (vCp x (.slice gm x.likes.length qm)) _ (k*12) _ HO5;rw [← HW6.out] at h;exact h
   have HP6:Hid (PAt vCp Cpy.likes LikC 2 12 7 w.heap.size lo w6.heap.size g w w6 (Cu cs (k*12) (vCp x (.slice gm x.likes.length qm))) xs (k+1)):=by
    have h:=PAt.step (N':=w6.heap.size) (ae:=gm) (ce:=qm) LikC.flat Il oL HP5 HXX hcl (hsn.keep LikC.holds (Keeps.refl _ _) (by have:=hB4.size;omega)) (fun b o e hn=>by
     rcases hsn.2 with h9 | ⟨b',o',e',⟨h8,_⟩,h7,_⟩
     ·exact absurd h9 hn
     ·rw [e] at e'
      cases e'
      omega) (by have:=hBr.size;omega)
    rw [← HW6.out] at h;exact h
   have hB6:Below w.heap.size w w6:=by
    rw [HW6.out];exact Ad hgb _ _ _ hB5
   unfold vCp at HW6;clear hB5 HO5 HP5 hB4 HBX hs4 hb5 hOm hsn hBr hs6 HK4 HO HP;have i0:(0:Int)≤(k:Int):=by omega
   have i1:(k:Int)<(xs.length:Int):=by omega
   go_wp2_with (first | (refine Ag rfl 55 _ _ rfl g (k*12) (ccA x gm qm) (by first | rfl | (simp [go_sem];done)) rfl HT5 Be (by simp [Value.oneCell']) w6 HW6 ?_));go_roundw
   case rel=>exact ⟨k+1,_,by omega,by go_num,HO6,HP6,hB6⟩
   case measure=>simp [intOf];omega
  ·have hke:k=xs.length:=by omega
   subst hke;go_wp2_with fail;go_ret;exact ⟨g,q,rfl,HP.out.done nL HO,hB⟩
theorem dI (xs:List Cpy) (a:OA) (cap lo:Nat) (w:World) (hin:SliceC CpyC 12 lo w a xs) (hsm:xs.length≤1048576) (hz:SmC xs) :
  Calls prog 75 #[.slice a xs.length cap,.func (.func 76) #[] #[]] w fun e w'=>∃ g q,e=.returned (.slice g xs.length q)∧Oj w.heap.size w' (.slice g xs.length q) xs∧Below w.heap.size w w':=by
 cases a with
 | none =>
  have h0:xs=[]:=List.length_eq_zero_iff.1 (hin.nilD rfl);subst h0;refine (fA _ cap w).mono ?_;rintro e w1 ⟨rfl,hb⟩;exact ⟨none,0,rfl,OwnA.nil,hb⟩
 | some ad =>
  refine (kV xs ad cap lo w hin hsm hz).mono ?_;rintro e w1 ⟨g,q,rfl,hO,hb⟩;exact ⟨some ⟨g,0,none⟩,q,rfl,hO,hb⟩
end Go.Proofs.YtjoeojhdkoidbaaGreat
