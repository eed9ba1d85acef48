import Derived.Test.YtpidfnfilnkhkaaGreatVcp
import Derived.Test.YtpidfnfilnkhkaaGreatJ32
set_option maxHeartbeats 4000000
set_option maxRecDepth 100000
namespace Go.Proofs.YtpidfnfilnkhkaaGreat
open Go.RowKit
theorem Ru {f g:Nat→Bool} (h:∀ k,f k=true→g k=true):∀ n,Ck f n=true→Ck g n=true
 | 0,e=>e
 | n+1,e=>by
  simp only [Ck,Bool.or_eq_true] at e ⊢;rcases e with e | e
  ·exact .inl (Ru h n e)
  ·exact .inr (h n e)
theorem eO {f:Nat→Bool}:∀ {n:Nat},Ck f n=true→∃ k,k<n∧f k=true
 | 0,e=>by cases e
 | n+1,e=>by
  simp only [Ck,Bool.or_eq_true] at e;rcases e with e | e
  ·obtain ⟨k,h1,h2⟩:=eO e
   exact ⟨k,by omega,h2⟩
  ·exact ⟨n,by omega,e⟩
theorem Ug {f:Nat→Bool}:∀ {n k:Nat},k<n→f k=true→Ck f n=true
 | 0,k,h,_=>by omega
 | n+1,k,h,e=>by
  simp only [Ck,Bool.or_eq_true];by_cases q:k=n
  ·subst q;exact .inr e
  ·exact .inl (Ug (by omega) e)
theorem sH (pl:List Nat) (p:Nat→Bool) (f:Nat→Bool) (h:∀ i q,pl[i]?=some q→f i=p q):∀ k,k≤pl.length→Ca f k=(pl.take k).countP p
 | 0,_=>by simp [Ca]
 | k+1,hk=>by
  have hq:pl[k]?=some pl[k]:=gE (by omega);have ih:=sH pl p f h k (by omega);rw [show Ca f (k+1)=Ca f k+(if f k then 1 else 0) from rfl,List.take_add_one,hq,List.countP_append,ih,h k _ hq];simp only [Option.toList_some,List.countP_cons,List.countP_nil]
  split <;> omega
def svP (x:Flt) (s p:Nat):Bool:=decide (nA x p=some s)
theorem tI (x:Flt) (pl:List Nat) (s:Nat):Ca (goF x pl s) pl.length=pl.countP (svP x s):=by
 have h:=sH pl (svP x s) (goF x pl s) (fun i q hq=>by unfold goF svP;rw [hq]) pl.length nL;rw [List.take_length] at h;exact h
theorem kE {x:Flt} {q h:List Nat} (hs:q.Sublist h) (hl:Fo x h):Fo x q:=by
 intro s hsl h0;have h1:=hs.countP_le (p:=svP x s);rw [tI] at h0 ⊢;have h2:=hl s hsl;rw [tI] at h2;have:=h2 (by omega);omega
theorem qA (x:Flt):Fo x []:=by
 intro s _ h0;simp [Ca] at h0
def Pg (x:Flt) (ci:Nat) (y:Cpy) (b:Brt):Bool :=
 b.closed || (En y b || (!Ch y.select b.marks b.zone || (Es x ci y b || (decide (10≤Av x ci b.name x.copies.length) || (decide (b.room<Bc x ci b.name x.copies.length+y.room) || decide (b.hold<Bg x ci b.name x.copies.length+y.hold))))))
theorem nT (x:Flt) (ci:Nat) (y:Cpy) (b:Brt):Ec x ci y b false=0↔Pg x ci y b=false∧Ej x ci y b=false:=by
 unfold Ec Pg;simp only [Bool.not_false,Bool.and_true,Bool.or_eq_false_iff,Bool.not_eq_false',decide_eq_false_iff_not];constructor
 ·intro h
  by_cases h1:b.closed=true
  ·rw [if_pos h1] at h;omega
  rw [if_neg h1] at h;by_cases h2:En y b=true
  ·rw [if_pos h2] at h;omega
  rw [if_neg h2] at h;by_cases h3:Ch y.select b.marks b.zone=false
  ·rw [if_pos h3] at h;omega
  rw [if_neg h3] at h;by_cases h4:Es x ci y b=true
  ·rw [if_pos h4] at h;omega
  rw [if_neg h4] at h;by_cases h5:Ej x ci y b=true
  ·rw [if_pos h5] at h;omega
  rw [if_neg h5] at h;by_cases h6:10≤Av x ci b.name x.copies.length
  ·rw [if_pos h6] at h;omega
  rw [if_neg h6] at h;by_cases h7:b.room<Bc x ci b.name x.copies.length+y.room
  ·rw [if_pos h7] at h;omega
  rw [if_neg h7] at h;by_cases h8:b.hold<Bg x ci b.name x.copies.length+y.hold
  ·rw [if_pos h8] at h;omega
  simp only [Bool.not_eq_true,Bool.not_eq_false] at h1 h2 h3 h4 h5;exact ⟨⟨h1,h2,h3,h4,h6,h7,h8⟩,h5⟩
 ·rintro ⟨⟨h1,h2,h3,h4,h6,h7,h8⟩,h5⟩
  rw [h1,h2,h3,h4,h5,if_neg (by decide),if_neg (by decide),if_neg (by decide),if_neg (by decide),if_neg (by decide),if_neg h6,if_neg h7,if_neg h8]
theorem mO {x:Flt} {l:List Nat} {i:Nat} {c:Cpy} (h:(woF x l).copies[i]?=some c) (hc:¬ c.at_=⟨#[]⟩):i∉l∧x.copies[i]?=some c:=by
 have h1:(atP l ⟨#[]⟩ x.copies)[i]?=some c:=h;rw [De] at h1;obtain ⟨c0,h2,h3⟩:=Option.map_eq_some_iff.1 h1;by_cases hi:i∈l
 ·rw [if_pos hi] at h3
  subst h3;exact absurd rfl hc
 ·rw [if_neg hi] at h3
  subst h3;exact ⟨hi,h2⟩
theorem lZ {x:Flt} {l:List Nat} {i:Nat} {c:Cpy} (h:x.copies[i]?=some c) (hi:i∉l):(woF x l).copies[i]?=some c:=by
 show (atP l ⟨#[]⟩ x.copies)[i]?=some c
 rw [De,h];simp only [Option.map_some,if_neg hi]
theorem sY {x:Flt} {l1 l2:List Nat} (hl:∀ e∈l1,e∈l2) (ci:Nat) (y:Cpy) (b:Brt) (h:Es (woF x l2) ci y b=true):Es (woF x l1) ci y b=true:=by
 unfold Es at h ⊢;have e1:(woF x l2).copies.length=(woF x l1).copies.length:=by show (atP _ _ _).length=(atP _ _ _).length;rw [Cf,Cf]
 rw [e1] at h;refine Ru (fun i hi=>?_) _ h;unfold Om at hi ⊢
 cases hc:(woF x l2).copies[i]? with
 | none=>rw [hc] at hi;cases hi
 | some c =>
  rw [hc] at hi;simp only [Bool.and_eq_true,decide_eq_true_eq] at hi;obtain ⟨h1,h2⟩:=mO hc hi.1.2;rw [lZ h2 (fun k=>h1 (hl i k))];simp only [Bool.and_eq_true,decide_eq_true_eq];exact hi
theorem xB {x:Flt} {l1 l2:List Nat} (hl:∀ e∈l1,e∈l2) (ci:Nat) (sv z:BA) (i:Nat) (hi:znF (woF x l2) ci sv z i=true):znF (woF x l1) ci sv z i=true:=by
 unfold znF at hi ⊢
 cases hc:(woF x l2).copies[i]? with
 | none=>rw [hc] at hi;cases hi
 | some c =>
  rw [hc] at hi;simp only [Bool.and_eq_true,decide_eq_true_eq] at hi;obtain ⟨h1,h2⟩:=mO hc hi.1.2;rw [lZ h2 (fun k=>h1 (hl i k))];simp only [Bool.and_eq_true,decide_eq_true_eq];exact hi
theorem Vs {x:Flt} {l1 l2:List Nat} (hl:∀ e∈l1,e∈l2) (hr:∀ (k:Nat) (c:Cpy),x.copies[k]?=some c→0≤c.room∧0≤c.hold) (ci:Nat) {nm:BA} (hn:¬ nm=⟨#[]⟩):∀ k,Av (woF x l2) ci nm k≤Av (woF x l1) ci nm k∧Bc (woF x l2) ci nm k≤Bc (woF x l1) ci nm k∧Bg (woF x l2) ci nm k≤Bg (woF x l1) ci nm k
 | 0=>by simp [Av,Bc,Bg]
 | k+1=>by
  have ih:=Vs hl hr ci hn k;have hp:∀ c,(woF x l1).copies[k]?=some c→0≤c.room∧0≤c.hold:=by
   intro c hc;have h1:(atP l1 ⟨#[]⟩ x.copies)[k]?=some c:=hc;rw [De] at h1;obtain ⟨c0,h2,h3⟩:=Option.map_eq_some_iff.1 h1;have:=hr k c0 h2;by_cases hi:k∈l1
   ·rw [if_pos hi] at h3;subst h3;exact this
   ·rw [if_neg hi] at h3;subst h3;exact this
  unfold Av Bc Bg
  cases hc:(woF x l2).copies[k]? with
  | none =>
   have h1:x.copies[k]?=none:=by
    have h1:(atP l2 ⟨#[]⟩ x.copies)[k]?=none:=hc;rw [De] at h1;exact Option.map_eq_none_iff.1 h1
   have h2:(woF x l1).copies[k]?=none:=by
    show (atP l1 ⟨#[]⟩ x.copies)[k]?=none
    rw [De,h1];rfl
   rw [h2];simp only;omega
  | some c =>
   by_cases hat:c.at_=nm∧k≠ci
   ·have hne:¬ c.at_=⟨#[]⟩:=by rw [hat.1];exact hn
    obtain ⟨h1,h2⟩:=mO hc hne;rw [lZ h2 (fun q=>h1 (hl k q))];simp only;rw [if_pos hat,if_pos hat,if_pos hat];omega
   ·simp only
    rw [if_neg hat,if_neg hat,if_neg hat]
    cases h1:(woF x l1).copies[k]? with
    | none=>simp only;omega
    | some d =>
     have:=hp d h1;simp only
     split <;> omega
theorem rO {x:Flt} (hv:Au x=true) {l1 l2:List Nat} (hl:∀ e∈l1,e∈l2) (ci:Nat) (y:Cpy) {b:Brt} {bi:Nat} (hb:x.berths[bi]?=some b) (h:Pg (woF x l1) ci y b=false):Pg (woF x l2) ci y b=false:=by
 have hm:=Be hv;have ha:=Dp hv;have h9:=Vs (x:=x) hl (fun k c hc=>⟨((hm.2.2.2 k c hc).1).1,((ha.1 k c hc).1).1⟩) ci (Jl (hm.2.2.1 bi b hb).1) x.copies.length;unfold Pg at h ⊢;simp only [Bool.or_eq_false_iff,Bool.not_eq_false',decide_eq_false_iff_not] at h ⊢;have e1:(woF x l1).copies.length=x.copies.length:=Cf _ _ _;have e2:(woF x l2).copies.length=x.copies.length:=Cf _ _ _;rw [e1] at h;rw [e2];obtain ⟨h1,h2,h3,h4,h5,h6,h7⟩:=h;refine ⟨h1,h2,h3,?_,?_,?_,?_⟩
 ·cases e:Es (woF x l2) ci y b with
  | false=>rfl
  | true=>rw [sY hl ci y b e] at h4;cases h4
 ·omega
 ·omega
 ·omega
theorem rM {x:Flt} (hv:Au x=true) {l1 l2:List Nat} (hl:∀ e∈l1,e∈l2) (ci:Nat) (y:Cpy) {b:Brt} {bi:Nat} (hb:x.berths[bi]?=some b) (hon:∀ e∈l2,∀ c,x.copies[e]?=some c→c.at_=b.name) (h:Ej (woF x l1) ci y b=true):Ej (woF x l2) ci y b=true:=by
 have hm:=Be hv;have e1:(woF x l1).copies.length=x.copies.length:=Cf _ _ _;have e2:(woF x l2).copies.length=x.copies.length:=Cf _ _ _;have hz:Dl x.berths b.name=b.zone:=by
  obtain ⟨b',q1,q2,q3⟩:=bW hm.2.1 (hm.2.1.last (Cs (f:=(·.name)) hb) (Ac hb));rw [hb] at q1;cases q1
  exact q3
 unfold Ej at h ⊢;rw [e1] at h;rw [e2];simp only [Bool.and_eq_true,Bool.or_eq_true,Bool.not_eq_true',decide_eq_true_eq] at h ⊢;obtain ⟨⟨h1,h2⟩,h3⟩:=h;refine ⟨⟨h1,?_⟩,?_⟩
 ·cases e:Ck (znF (woF x l2) ci y.near b.zone) x.copies.length with
  | false=>rfl
  | true=>rw [Ru (fun i hi=>xB hl ci _ _ i hi) _ e] at h2;cases h2
 ·rcases h3 with h3 | h3
  ·refine .inl ?_
   obtain ⟨i,hi,hs⟩:=eO h3;refine Ug hi ?_;unfold stF at hs ⊢
   cases hc:(woF x l1).copies[i]? with
   | none=>rw [hc] at hs;cases hs
   | some c =>
    rw [hc] at hs;simp only [Bool.and_eq_true,decide_eq_true_eq] at hs;obtain ⟨k1,k2⟩:=mO hc hs.2;by_cases hil:i∈l2
    ·exfalso
     have hcb:=hon i hil c k2;have:znF (woF x l1) ci y.near b.zone i=true:=jK hc hs.1.1 hs.1.2 hs.2 (by show Dl x.berths c.at_=b.zone;rw [hcb];exact hz);rw [Ug hi this] at h2;cases h2
    ·rw [lZ k2 hil]
     simp only [Bool.and_eq_true,decide_eq_true_eq];exact hs
  ·exact .inr h3
def rkV (x:Flt) (i:Nat):Int:=match x.copies[i]? with
 | some c=>c.rank
 | none=>0
def onV (x:Flt) (y:Cpy) (b:Brt) (i:Nat):Bool:=match x.copies[i]? with
 | some c=>decide (c.at_=b.name) && decide (c.rank<y.rank)
 | none=>false
def Bf (x:Flt) (y:Cpy) (b:Brt):List Nat:=(List.range x.copies.length).filter (onV x y b)
theorem Gn {x:Flt} {y:Cpy} {b:Brt} {i:Nat} (h:i∈Bf x y b):∃ c,x.copies[i]?=some c∧c.at_=b.name∧c.rank<y.rank:=by
 have h1:=(List.mem_filter.1 h).2;unfold onV at h1
 cases hc:x.copies[i]? with
 | none=>rw [hc] at h1;cases h1
 | some c =>
  rw [hc] at h1;simp only [Bool.and_eq_true,decide_eq_true_eq] at h1;exact ⟨c,rfl,h1.1,h1.2⟩
theorem Jk (x:Flt) (y:Cpy) (b:Brt):(Bf x y b).Pairwise (·<·):=List.pairwise_lt_range.filter _
def gM (x:Flt) (ci:Nat) (y:Cpy) (b:Brt) (l:List Nat):Bool:=decide (Ec (woF x l) ci y b false=0)
def okV (x:Flt) (ci:Nat) (y:Cpy) (b:Brt) (l:List Nat):Prop:=Fo x l∧gM x ci y b l=true
def lcB (x:Flt) (l:List Nat):Bool:=(List.range x.services.length).all fun s=>decide (Ca (goF x l s) l.length=0) || decide (((Ca (goF x l s) l.length:Nat):Int)≤Gs x s x.copies.length)
theorem bY (x:Flt) (l:List Nat):lcB x l=true↔Fo x l:=by
 unfold lcB Fo;simp only [List.all_eq_true,List.mem_range,Bool.or_eq_true,decide_eq_true_eq];constructor
 ·intro h s hs h0
  rcases h s hs with k | k
  ·omega
  ·exact k
 ·intro h s hs
  by_cases k:Ca (goF x l s) l.length=0
  ·exact .inl k
  ·exact .inr (h s hs (by omega))
def Co (x:Flt) (ci:Nat) (y:Cpy) (b:Brt) (l all:List Nat):Bool:=lcB x l && !Ej (woF x l) ci y b && !Pg (woF x (l++all)) ci y b
theorem eL {x:Flt} (hv:Au x=true) (ci:Nat) (y:Cpy) {b:Brt} {bi:Nat} (hb:x.berths[bi]?=some b) {gs:List (List Nat)} (hg:Grp (rkV x) gs) (hmem:∀ e,e∈Bf x y b↔∃ g∈gs,e∈g) {f:Nat} (hf:(Bf x y b).length≤f) :
  (∀ g,(Eb (Co x ci y b) f [[]] gs).find? (gM x ci y b)=some g→Best (rkV x) (Bf x y b) (okV x ci y b) g)∧((Eb (Co x ci y b) f [[]] gs).find? (gM x ci y b)=none→∀ h,h.Sublist (Bf x y b)→¬ okV x ci y b h):=by
 refine oM (sp:=Fo x) (Jk x y b) hg hmem hf ?_ (qA x) (fun l=>Iff.rfl) ?_
 ·intro l g h
  unfold Co at h;simp only [Bool.and_eq_true] at h;exact (bY x l).1 h.1.1
 ·rintro h hs ⟨h1,h2⟩ Q all hQ hQh hall
  have hz:=(nT _ _ _ _).1 (of_decide_eq_true h2);have hsub:Q.Sublist h:=Ia hQ ((Jk x y b).sublist hs) hQh;unfold Co;simp only [Bool.and_eq_true,Bool.not_eq_true'];refine ⟨⟨(bY x Q).2 (kE hsub h1),?_⟩,rO hv (fun e he=>List.mem_append.2 (hall e he)) ci y hb hz.1⟩
  cases e:Ej (woF x Q) ci y b with
  | false=>rfl
  | true =>
   have:=rM hv hQh ci y hb (fun e he c hc=>by
    obtain ⟨c',k1,k2,_⟩:=Gn (hs.subset he);rw [hc] at k1;cases k1
    exact k2) e
   rw [hz.2] at this;cases this
end Go.Proofs.YtpidfnfilnkhkaaGreat
namespace Go.Proofs.YtpidfnfilnkhkaaGreat
open Go.RowKit Go.WideMaps Go.Maps
def iI (x:Flt) (ci:Nat) (y:Cpy) (b:Brt) (u1 u2 u3:Int):List (Int×Nat×Bool):=[(1,117,b.closed),(2,137,En y b),(3,138,!Ch y.select b.marks b.zone),(4,139,Es x ci y b),(6,141,decide (10≤u1)),(7,142,decide (b.room<u2+y.room)),(8,143,decide (b.hold<u3+y.hold))]
abbrev Qq:List Value:=[.int .i64 1,.func (.func 117) #[] #[],.int .i64 2,.func (.func 137) #[] #[],.int .i64 3,.func (.func 138) #[] #[],.int .i64 4,.func (.func 139) #[] #[],.int .i64 6,.func (.func 141) #[] #[],.int .i64 7,.func (.func 142) #[] #[],.int .i64 8,.func (.func 143) #[] #[]]
theorem eS {x:Flt} {ci:Nat} {y:Cpy} {b:Brt} {u1 u2 u3:Int} {r:Int×Nat×Bool} (h:r∈iI x ci y b u1 u2 u3):r∈Kk x ci y b u1 u2 u3:=by
 unfold iI at h;unfold Kk cQ;simp only [List.mem_cons,List.not_mem_nil,or_false] at h ⊢;rcases h with h | h | h | h | h | h | h <;> simp [h]
theorem qV {x:Flt} {ci:Nat} {y:Cpy} {b:Brt} {u1 u2 u3:Int} (h1:u1=Av x ci b.name x.copies.length) (h2:u2=Bc x ci b.name x.copies.length) (h3:u3=Bg x ci b.name x.copies.length):(!decide (Gd (iI x ci y b u1 u2 u3)=0))=Pg x ci y b:=by
 unfold iI Pg;rw [h1,h2,h3];simp only [Gd];cases b.closed
 ·cases En y b
  ·cases Ch y.select b.marks b.zone
   ·rfl
   ·cases Es x ci y b
    ·by_cases h4:10≤Av x ci b.name x.copies.length
     ·simp [h4]
     ·by_cases h5:b.room<Bc x ci b.name x.copies.length+y.room
      ·simp [h4,h5]
      ·by_cases h6:b.hold<Bg x ci b.name x.copies.length+y.hold
       ·simp [h4,h5,h6]
       ·simp [h4,h5,h6]
    ·rfl
  ·rfl
 ·rfl
theorem oO {rb:Nat} {w:World} (x:Flt) (ci:Nat) (y:Cpy) (b:Brt) (u1 u2 u3:Int) (h:w.rangeAt rb 0 Qq):tU rb (iI x ci y b u1 u2 u3) w:=by
 intro k r hk;have hk8:k<7:=(List.getElem?_eq_some_iff.1 hk).1;have hc:k=0∨k=1∨k=2∨k=3∨k=4∨k=5∨k=6:=by omega
 rcases hc with rfl | rfl | rfl | rfl | rfl | rfl | rfl
 ·cases hk
  exact ⟨by simpa using h 0 _ rfl,by simpa using h 1 _ rfl⟩
 ·cases hk
  exact ⟨by simpa using h 2 _ rfl,by simpa using h 3 _ rfl⟩
 ·cases hk
  exact ⟨by simpa using h 4 _ rfl,by simpa using h 5 _ rfl⟩
 ·cases hk
  exact ⟨by simpa using h 6 _ rfl,by simpa using h 7 _ rfl⟩
 ·cases hk
  exact ⟨by simpa using h 8 _ rfl,by simpa using h 9 _ rfl⟩
 ·cases hk
  exact ⟨by simpa using h 10 _ rfl,by simpa using h 11 _ rfl⟩
 ·cases hk
  exact ⟨by simpa using h 12 _ rfl,by simpa using h 13 _ rfl⟩
theorem tO (lo p m1 m2 m3 m4 ci bi:Nat) (x:Flt) (a1:OA) (c1:Nat) (a2:OA) (c2:Nat) (a3:OA) (c3:Nat) (y:Cpy) (a7:OA) (c7:Nat) (b:Brt) (am:OA) (cm:Nat) (u1 u2 u3:Int) (cb rb rc:Nat) (w:World) (hK:SpotK w lo ci bi x a1 a3 y a7 b am) (g1:u1=Av x ci b.name x.copies.length) (g2:u2=Bc x ci b.name x.copies.length) (g3:u3=Bg x ci b.name x.copies.length) (h2:0≤u2∧u2≤60000) (h3:0≤u3∧u3≤60000) (hF:FoundM p m1 m2 m3 m4 (y.select,bi) x a1 c1 a2 c2 a3 c3 w) (hcb:w.cell? ⟨cb,26,none⟩=some (.slice (some ⟨rb,0,none⟩) 7 rc)) (hR:w.rangeAt rb 0 Qq) (hrb:rb<w.heap.size) (hrm:rb≠m4) :
  Calls Tryz.prog 178 #[.agg (Ak p ci bi y a7 c7 b am cm u1 u2 u3),.pointer (some ⟨cb,0,none⟩)] w fun e w'=>e=.returned (.bool (Pg x ci y b))∧MemoAt m4 (y.select,bi) x.berths w'∧But m4 w.heap.size w w':=by
 have hcl:=block_lt_of_cell hcb;have hb0:=(Below.refl _ w).alloc nL (Obj.cells (Ak p ci bi y a7 c7 b am cm u1 u2 u3) 60);have HX:=iH (Blk.alloc w (Ak p ci bi y a7 c7 b am cm u1 u2 u3) 60);have HF0:=iH (hF.below hb0);have HK0:=iH (hK.keep (Keeps.of_below hb0 nL lo));have HB0:Hid (But m4 w.heap.size w (w.alloc (Obj.cells (Ak p ci bi y a7 c7 b am cm u1 u2 u3) 60))):=But.of_below hb0;have HR0:=iH (oO x ci y b u1 u2 u3 (Ae hR hb0 hrb));have hs0:w.heap.size<(w.alloc (Obj.cells (Ak p ci bi y a7 c7 b am cm u1 u2 u3) 60)).heap.size:=by simp
 have k26:=(hb0.cell (p:=⟨cb,26,none⟩) hcl).trans hcb;obtain ⟨fr,hfr⟩:∃ fr,fr=Gd (iI x ci y b u1 u2 u3):=⟨_,rfl⟩;have HBV:Hid ((!decide (fr=0))=Pg x ci y b):=by rw [hfr];exact qV g1 g2 g3
 have HFR:=iH hfr;clear hK hF hcb hR hfr g1 g2 g3;go_enter Tryz.func178,Tryz.ntmps178;go_upto_region 1 with fail;clear hb0;generalize w.alloc (Obj.cells (Ak p ci bi y a7 c7 b am cm u1 u2 u3) 60)=w0 at *;go_wp2_with (first | (refine wpList_load_mid rfl 60 _ rfl w.heap.size 0 (by first | rfl | (simp [go_sem];done)) (Ak p ci bi y a7 c7 b am cm u1 u2 u3).toList _ HX.out.rangeA Tryz.underlying60 rfl Bu ?_));refine (So lo p m1 m2 m3 m4 ci bi x a1 c1 a2 c2 a3 c3 y a7 c7 b am cm u1 u2 u3 (iI x ci y b u1 u2 u3) rb rc w0 HK0 (show 7≤8 by decide) (fun W hk k r h=>Yp W lo p m1 m2 m3 m4 ci bi x a1 c1 a2 c2 a3 c3 y a7 c7 b am cm u1 u2 u3 hk h2 h3 r (eS (List.mem_of_getElem? h))) (fun k r h=>Ta x ci y b u1 u2 u3 r (eS (List.mem_of_getElem? h))) HF0 HR0 (by omega) hrm).mono ?_;rintro e w4 ⟨rfl,hm5,hb4⟩;have HB4:Hid (But m4 w.heap.size w w4):=HB0.out.trans (hb4.mono (by omega));have HM4:=iH hm5;rw [← HFR.out];clear hm5 hb4;by_cases hz:fr=0
 ·have e0:decide (fr=0)=true:=decide_eq_true hz
  have HQ:Hid (Pg x ci y b=false):=by show _=_;rw [← HBV.out,e0];rfl
  rw [hz];clear e0 hz;go_wp2_with fail;go_ret;exact ⟨Ab HQ.out.symm,HM4,HB4⟩
 ·have e0:decide (fr=0)=false:=decide_eq_false hz
  have HQ:Hid (Pg x ci y b=true):=by show _=_;rw [← HBV.out,e0];rfl
  go_wp2_with fail;go_ret;exact ⟨Ab (by rw [HQ.out];simpa using hz),HM4,HB4⟩
end Go.Proofs.YtpidfnfilnkhkaaGreat
