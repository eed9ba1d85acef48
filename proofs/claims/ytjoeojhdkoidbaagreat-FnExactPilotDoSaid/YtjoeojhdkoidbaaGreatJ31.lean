import Derived.Test.YtjoeojhdkoidbaaGreatJ30
set_option maxHeartbeats 2000000
namespace Go.Proofs.YtjoeojhdkoidbaaGreat
open Go.RowKit Tryz
structure Stp where
 copy:BA
 berth:BA
 gone:List BA
abbrev hhL (x:Stp) (a1:OA) (c1:Nat):List Value:=[.string x.copy,.string x.berth,.slice a1 x.gone.length c1]
abbrev hhA (x:Stp) (a1:OA) (c1:Nat):Array Value:=#[.string x.copy,.string x.berth,.slice a1 x.gone.length c1]
def Hd (x:Stp):Nat:=x.copy.size+x.berth.size+(wS ByteArray.size x.gone)
def StpC:Ej Stp:=fun lo w f x=>∃ (a2:OA) (c2:Nat),f 0=some (.string x.copy)∧f 1=some (.string x.berth)∧f 2=some (.slice a2 x.gone.length c2)∧x.copy.size≤maxLen∧x.berth.size≤maxLen∧SliceC StrC 1 lo w a2 x.gone
theorem StpC.holds:Er StpC 3:=by
 rintro lo lo' w w' f g x h k hl ⟨a2,c2,q0,q1,q2,z0,z1,n2⟩;exact ⟨a2,c2,(h 0 (by omega)).trans q0,(h 1 (by omega)).trans q1,(h 2 (by omega)).trans q2,z0,z1,n2.keep StrC.holds k hl⟩
theorem jX (x:Stp) (a2:OA) (c2:Nat) (lo:Nat) (L:Int) (w:World) (z0:x.copy.size≤maxLen) (z1:x.berth.size≤maxLen) (n2:SliceC StrC 1 lo w a2 x.gone) (h0:0≤L) (h1:L≤1048576) :
  Calls prog 5 #[.agg (hhA x a2 c2),.int .i64 L] w (Rt (.int .i64 (szR (Hd x) L)) w):=by
 unfold maxLen at z0 z1;have N2:=iH n2;clear n2;have HW:Hid (Hd x=x.copy.size+x.berth.size+(wS ByteArray.size x.gone)):=rfl;generalize Hd x=W at *;by_cases d0:L - (x.copy.size:Nat)<0
 ·go_enter func5,ntmps5
  go_wp2_with fail;go_ret;exact ⟨Al (by have:=HW.out;unfold szR;rw [if_neg (by omega)]),by go_grown⟩
 ·skip
  by_cases d1:L - (x.copy.size:Nat) - (x.berth.size:Nat)<0
  ·go_enter func5,ntmps5
   go_wp2_with fail;go_ret;exact ⟨Al (by have:=HW.out;unfold szR;rw [if_neg (by omega)]),by go_grown⟩
  ·skip
   go_enter func5,ntmps5;go_wp2_with fail;refine (St x.gone a2 c2 lo _ _ (N2.out.below StrC.holds (B:=w.heap.size) (by go_grown) nL) (by omega) (by omega)).mono ?_;rintro e w1 ⟨rfl,hb1⟩;have hB1:Below w.heap.size w w1:=(show Below w.heap.size w _ by go_grown).trans (hb1.mono (by simp));have hs1:w.heap.size<w1.heap.size:=by have:=hb1.size;simp at this;omega
   clear hb1;by_cases d2:(((wS ByteArray.size x.gone):Nat):Int)≤L - (x.copy.size:Nat) - (x.berth.size:Nat)
   ·rw [Fl d2]
    go_wp2_with fail;go_ret;exact ⟨Al (by have:=HW.out;unfold szR;rw [if_pos (by omega)];omega),hB1⟩
   ·rw [Fk d2]
    go_wp2_with fail;go_ret;exact ⟨Al (by have:=HW.out;unfold szR;rw [if_neg (by omega)]),hB1⟩
theorem Fo:(prog.info? 40).map (·.size)=some 3:=by kernel_rfl
theorem sU:Rk 40 3:=⟨_,underlying40,rfl,Fo⟩
theorem mH (x:Stp) (a2:OA) (c2:Nat) (lo:Nat) (w:World) (n2:SliceC StrC 1 lo w a2 x.gone) (hsm:Hd x≤1048576) :
  Calls prog 8 #[.agg (hhA x a2 c2)] w fun e w'=>∃ g2,e=.returned (.agg (hhA x (some ⟨g2,0,none⟩) x.gone.length))∧SliceC StrC 1 w.heap.size w' (some ⟨g2,0,none⟩) x.gone∧Below w.heap.size w w':=by
 have N2:=iH n2;have M2:wS ByteArray.size x.gone≤1048576:=by unfold Hd at hsm;omega
 clear hsm n2;go_enter func8,ntmps8;go_wp2_with fail;refine (So x.gone a2 c2 lo _ (N2.out.below StrC.holds (B:=w.heap.size) (by go_grown) nL) M2).mono ?_;rintro e w1 ⟨g2,rfl,hg2,hn2,hb1⟩;have hz1:w.heap.size+1+1<w1.heap.size:=by have:=hb1.size;simp at this;omega
 have ko1_0:w1.cell? ⟨w.heap.size+1+1,0,none⟩=some (.string x.copy):=(hb1.cell (p:=⟨w.heap.size+1+1,0,none⟩) (by simp <;> omega)).trans (by simp [go_sem]);have fo1_0:w1.frozen? ⟨w.heap.size+1+1,0,none⟩=false:=(hb1.frozen (p:=⟨w.heap.size+1+1,0,none⟩) (by simp <;> omega)).trans (by simp [go_sem]);have kr1_0:w1.cell? ⟨w.heap.size+1,0,none⟩=some (.string ⟨#[]⟩):=(hb1.cell (p:=⟨w.heap.size+1,0,none⟩) (by simp <;> omega)).trans (by simp [go_sem]);have fr1_0:w1.frozen? ⟨w.heap.size+1,0,none⟩=false:=(hb1.frozen (p:=⟨w.heap.size+1,0,none⟩) (by simp <;> omega)).trans (by simp [go_sem]);have ko1_1:w1.cell? ⟨w.heap.size+1+1,1,none⟩=some (.string x.berth):=(hb1.cell (p:=⟨w.heap.size+1+1,1,none⟩) (by simp <;> omega)).trans (by simp [go_sem]);have fo1_1:w1.frozen? ⟨w.heap.size+1+1,1,none⟩=false:=(hb1.frozen (p:=⟨w.heap.size+1+1,1,none⟩) (by simp <;> omega)).trans (by simp [go_sem]);have kr1_1:w1.cell? ⟨w.heap.size+1,1,none⟩=some (.string ⟨#[]⟩):=(hb1.cell (p:=⟨w.heap.size+1,1,none⟩) (by simp <;> omega)).trans (by simp [go_sem]);have fr1_1:w1.frozen? ⟨w.heap.size+1,1,none⟩=false:=(hb1.frozen (p:=⟨w.heap.size+1,1,none⟩) (by simp <;> omega)).trans (by simp [go_sem]);have ko1_2:w1.cell? ⟨w.heap.size+1+1,2,none⟩=some (.slice none 0 0):=(hb1.cell (p:=⟨w.heap.size+1+1,2,none⟩) (by simp <;> omega)).trans (by simp [go_sem]);have fo1_2:w1.frozen? ⟨w.heap.size+1+1,2,none⟩=false:=(hb1.frozen (p:=⟨w.heap.size+1+1,2,none⟩) (by simp <;> omega)).trans (by simp [go_sem]);have kr1_2:w1.cell? ⟨w.heap.size+1,2,none⟩=some (.slice none 0 0):=(hb1.cell (p:=⟨w.heap.size+1,2,none⟩) (by simp <;> omega)).trans (by simp [go_sem]);have fr1_2:w1.frozen? ⟨w.heap.size+1,2,none⟩=false:=(hb1.frozen (p:=⟨w.heap.size+1,2,none⟩) (by simp <;> omega)).trans (by simp [go_sem]);have hg2':w.heap.size+1+1<g2:=by simp at hg2;omega
 have hB1:Below w.heap.size w w1:=(show Below w.heap.size w _ by go_grown).trans (hb1.mono (by simp <;> omega));have HN2:Hid (SliceC StrC 1 (w.heap.size+3) w1 (some ⟨g2,0,none⟩) x.gone):=hn2.keep StrC.holds (Keeps.refl _ _) (by simp <;> omega);clear hn2 hb1 hg2;have HPR:Hid (w1.rangeAt (w.heap.size+1+1) 0 [.string x.copy,.string x.berth]):=Aa ko1_0 (Aa ko1_1 (Ao _ _ _));have HTO:Hid (w1.there (w.heap.size+1+1) 2 1):=Aj ko1_2 fo1_2 (Ee _ _ _);have HTR:Hid (w1.there (w.heap.size+1) 0 3):=Aj kr1_0 fr1_0 (Aj kr1_1 fr1_1 (Aj kr1_2 fr1_2 (Ee _ _ _)));clear kr1_0 fr1_0 kr1_1 fr1_1 kr1_2 fr1_2 ko1_0 fo1_0 ko1_1 fo1_1;go_upto_region 5 with fail;have HRG:Hid (World.rangeAt (w1.setCell ⟨w.heap.size+1+1,2,none⟩ (.slice (some ⟨g2,0,none⟩) x.gone.length x.gone.length)) (w.heap.size+1+1) 0 (hhL x (some ⟨g2,0,none⟩) x.gone.length)):=Kc (vs:=[.slice (some ⟨g2,0,none⟩) x.gone.length x.gone.length]) HPR rfl HTO;have HTG:Hid (World.there (w1.setCell ⟨w.heap.size+1+1,2,none⟩ (.slice (some ⟨g2,0,none⟩) x.gone.length x.gone.length)) (w.heap.size+1) 0 3):=World.there_setCells HTR (w.heap.size+1+1) 2 [.slice (some ⟨g2,0,none⟩) x.gone.length x.gone.length];have HBG:Hid (Below w.heap.size w (w1.setCell ⟨w.heap.size+1+1,2,none⟩ (.slice (some ⟨g2,0,none⟩) x.gone.length x.gone.length))):=Ad (b:=w.heap.size+1+1) (by omega) [.slice (some ⟨g2,0,none⟩) x.gone.length x.gone.length] 2 _ hB1;have HG2:Hid (SliceC StrC 1 (w.heap.size+3) (w1.setCell ⟨w.heap.size+1+1,2,none⟩ (.slice (some ⟨g2,0,none⟩) x.gone.length x.gone.length)) (some ⟨g2,0,none⟩) x.gone):=HN2.out.keep StrC.holds (Keeps.setCells (b:=w.heap.size+1+1) (by omega) [.slice (some ⟨g2,0,none⟩) x.gone.length x.gone.length] 2 _) nL;clear ko1_2 fo1_2  HPR HTO HTR hz1 hB1 HN2 hg2';generalize (w1.setCell ⟨w.heap.size+1+1,2,none⟩ (.slice (some ⟨g2,0,none⟩) x.gone.length x.gone.length))=w9 at *;obtain ⟨w10,hw10⟩:∃ w',w'=w9.setCells (w.heap.size+1) 0 (hhL x (some ⟨g2,0,none⟩) x.gone.length):=⟨_,rfl⟩;have HR10:Hid (w10.rangeAt (w.heap.size+1) 0 (hhL x (some ⟨g2,0,none⟩) x.gone.length)):=by rw [hw10];exact World.rangeAt_setCells_same _ _ _ _ HTG
 have HB10:Hid (Below w.heap.size w w10):=by rw [hw10];exact Ad (by omega) _ _ _ HBG
 have HS2:Hid (SliceC StrC 1 w.heap.size w10 (some ⟨g2,0,none⟩) x.gone):=by rw [hw10];exact HG2.out.keep StrC.holds (Keeps.setCells (by omega) _ _ _) (by omega)
 have HW10:=iH hw10;clear hw10 HBG HG2;go_wp2_with (first | (refine qLr sU HRG ?_) | (refine Ag rfl 40 _ _ rfl (w.heap.size+1) 0 (hhA x (some ⟨g2,0,none⟩) x.gone.length) rfl rfl HTG Fo (by simp [Value.oneCell']) w10 HW10 ?_));exact bodyPost_ret (Av rfl _ _ (w.heap.size+1) (hhL x (some ⟨g2,0,none⟩) x.gone.length) _ rfl HR10 underlying40 rfl Fo) rfl ⟨g2,rfl,HS2,HB10⟩
theorem kG (x:Stp) (a2:OA) (c2:Nat) (a2p:OA) (c2p:Nat) (lo lo':Nat) (w:World) (n2:SliceC StrC 1 lo w a2 x.gone) (p2:SliceC StrC 1 lo' w a2p x.gone) (hsm:Hd x≤1048576) :
  Calls prog 11 #[.agg (hhA x a2 c2),.agg (hhA x a2p c2p)] w (Rt (.bool true) w):=by
 have N2:=iH n2;have P2:=iH p2;have M2:wS ByteArray.size x.gone≤1048576:=by unfold Hd at hsm;omega
 clear hsm n2 p2;go_enter func11,ntmps11;go_wp2_with fail;refine (Ut x.gone a2 a2p c2 c2p lo lo' _ (N2.out.below StrC.holds (B:=w.heap.size) (by go_grown) nL) (P2.out.below StrC.holds (B:=w.heap.size) (by go_grown) nL) M2).mono ?_;rintro e w1 ⟨rfl,hb1⟩;have hB1:Below w.heap.size w w1:=(show Below w.heap.size w _ by go_grown).trans (hb1.mono (by simp;omega));have hs1:w.heap.size+1<w1.heap.size:=by have:=hb1.size;simp at this;omega
 clear hb1;go_wp2_with fail;go_ret;exact ⟨rfl,hB1⟩
def atP (pl:List Nat) (s:BA) (l:List Cpy):List Cpy:=l.mapIdx fun i c=>if i∈pl then { c with at_:=s } else c
theorem Eb (pl:List Nat) (s:BA) (l:List Cpy) (i:Nat):(atP pl s l)[i]?=l[i]?.map fun c=>if i∈pl then { c with at_:=s } else c:=by
 simp [atP,List.getElem?_mapIdx]
theorem Bp (pl:List Nat) (s:BA) (l:List Cpy):(atP pl s l).length=l.length:=by simp [atP]
theorem iK (s:BA) (l:List Cpy):atP [] s l=l:=by
 apply List.ext_getElem?;intro i;rw [Eb];simp
theorem Ly (pl:List Nat) (s:BA) (l:List Cpy):(atP pl s l).map (·.name)=l.map (·.name):=by
 apply List.ext_getElem?;intro i;rw [List.getElem?_map,List.getElem?_map,Eb]
 cases l[i]? with
 | none=>rfl
 | some c =>
  simp only [Option.map_some]
  split <;> rfl
theorem bD {pl:List Nat} {s:BA} {l:List Cpy} {k q:Nat} {c:Cpy} (hk:pl[k]?=some q) (hc:(atP (pl.take k) s l)[q]?=some c):(atP (pl.take k) s l).set q { c with at_:=s }=atP (pl.take (k+1)) s l:=by
 apply List.ext_getElem?;intro i;have hlt:=Ah hc;have ht:pl.take (k+1)=pl.take k++[q]:=by rw [List.take_add_one,hk];rfl
 by_cases e:i=q
 ·subst e
  rw [List.getElem?_set_self hlt,Eb,ht];rw [Eb] at hc;obtain ⟨c0,h0,h1⟩:=Option.map_eq_some_iff.1 hc;rw [h0,← h1];simp only [Option.map_some,List.mem_append,List.mem_singleton,or_true,if_true]
  split <;> rfl
 ·rw [List.getElem?_set_ne (fun h=>e h.symm),Eb,Eb,ht]
  simp only [List.mem_append,List.mem_singleton,e,or_false]
theorem pE {pl:List Nat} {s t:BA} {l:List Cpy} (h:∀ q,q∈pl→∀ c,l[q]?=some c→c.at_=s):atP pl s (atP pl t l)=l:=by
 apply List.ext_getElem?;intro i;rw [Eb,Eb]
 cases e:l[i]? with
 | none=>rfl
 | some c =>
  by_cases hi:i∈pl
  ·simp only [Option.map_some,hi,if_true]
   rw [← h i hi c e]
  ·simp only [Option.map_some,hi,if_false]
def woF (x:Flt) (pl:List Nat):Flt:={ x with copies:=atP pl ⟨#[]⟩ x.copies }
theorem aV {l:List Cpy} {pl:List Nat} {nm:BA} (hn:¬ nm=⟨#[]⟩) (hr:∀ (k:Nat) (c:Cpy),l[k]?=some c→(0≤c.room∧c.room≤1000)∧(0≤c.hold∧c.hold≤1000)):∀ k:Nat,k≤60 →
  (0≤(Ar (atP pl ⟨#[]⟩ l) nm (-1) k).1∧(Ar (atP pl ⟨#[]⟩ l) nm (-1) k).1≤(Ar l nm (-1) k).1∧(Ar l nm (-1) k).1≤k) ∧
  (0≤(Ar (atP pl ⟨#[]⟩ l) nm (-1) k).2.1∧(Ar (atP pl ⟨#[]⟩ l) nm (-1) k).2.1≤(Ar l nm (-1) k).2.1∧(Ar l nm (-1) k).2.1≤1000*k) ∧
  (0≤(Ar (atP pl ⟨#[]⟩ l) nm (-1) k).2.2∧(Ar (atP pl ⟨#[]⟩ l) nm (-1) k).2.2≤(Ar l nm (-1) k).2.2∧(Ar l nm (-1) k).2.2≤1000*k)
 | 0,_=>by simp [Ar]
 | k+1,hk=>by
  have ih:=aV (pl:=pl) hn hr k (by omega)
  cases e:l[k]? with
  | none =>
   have e2:(atP pl ⟨#[]⟩ l)[k]?=none:=by rw [Eb,e];rfl
   simp only [Ar,e,e2];omega
  | some c =>
   have hc:=hr k c e;have hne:((k:Nat):Int)≠-1:=by omega
   by_cases hp:k∈pl
   ·have e2:(atP pl ⟨#[]⟩ l)[k]?=some { c with at_:=⟨#[]⟩ }:=by rw [Eb,e];simp only [Option.map_some,hp,if_true]
    simp only [Ar,e,e2];rw [if_neg (fun h=>hn h.1.symm)];by_cases ha:c.at_=nm
    ·rw [if_pos ⟨ha,hne⟩]
     unfold wrap64;simp only;omega
    ·rw [if_neg (fun h=>ha h.1)]
     omega
   ·have e2:(atP pl ⟨#[]⟩ l)[k]?=some c:=by rw [Eb,e];simp only [Option.map_some,hp,if_false]
    simp only [Ar,e,e2];by_cases ha:c.at_=nm
    ·rw [if_pos ⟨ha,hne⟩,if_pos ⟨ha,hne⟩]
     unfold wrap64;simp only;omega
    ·rw [if_neg (fun h=>ha h.1),if_neg (fun h=>ha h.1)]
     omega
theorem aA {x:Flt} (hv:Cf x=true) (pl:List Nat):Cf (woF x pl)=true:=by
 have hm:=Br hv;have ha:=Dw hv;have hl:=(Cg hv).2.1;unfold Cf at hv ⊢;simp only [Bool.and_eq_true] at hv ⊢;obtain ⟨h1,h2,h3,h4,h5,h6⟩:=hv;refine ⟨?_,?_,h3,h4,?_,?_⟩
 ·unfold Dt at h1 ⊢
  simp only [Bool.and_eq_true,decide_eq_true_eq] at h1;simp only [Bool.and_eq_true,decide_eq_true_eq];exact ⟨h1.1,by rw [show (woF x pl).copies.length=x.copies.length from Bp _ _ _];exact h1.2⟩
 ·unfold Fb at h2 ⊢
  simpa only [woF,Bp,Ly] using h2
 ·unfold Bw at h5 ⊢
  rw [Mh] at h5 ⊢;intro k c hc;have hc':(atP pl ⟨#[]⟩ x.copies)[k]?=some c:=hc;rw [Eb] at hc';obtain ⟨c0,h7,h8⟩:=Option.map_eq_some_iff.1 hc';have h9:=h5 k c0 h7;unfold Hc at h9 ⊢;by_cases hp:k∈pl
  ·rw [if_pos hp] at h8
   rw [← h8];simp only [Bool.and_eq_true,Bool.or_eq_true,decide_eq_true_eq] at h9 ⊢;exact ⟨⟨h9.1.1,Or.inr rfl⟩,h9.2⟩
  ·rw [if_neg hp] at h8
   rw [← h8];exact h9
 ·unfold Df at h6 ⊢
  rw [Mh] at h6 ⊢;intro k b hb;have hb':x.berths[k]?=some b:=hb;have h7:=h6 k b hb';have h8:=aV (l:=x.copies) (pl:=pl) (nm:=b.name) (Kk (hm.2.2.1 k b hb').1) (fun k c hc=>⟨(hm.2.2.2 k c hc).1,(ha.1 k c hc).1⟩) x.copies.length hl;unfold Ih at h7 ⊢;simp only [Bool.and_eq_true,decide_eq_true_eq,woF,Bp] at h7 ⊢;omega
def Dl (x:Flt) (gone:List BA):List Nat:=gone.map fun g=>(Fy x.copies g).toNat
theorem sG {x:Flt} (hv:Cf x=true) {gone:List BA} {pl:List Nat} (h:PlOk (cpN x) gone gone.length pl):pl=Dl x gone:=by
 obtain ⟨_,_,_,hc,_,_⟩:=Cg hv;apply List.ext_getElem?;intro i;unfold Dl;rw [List.getElem?_map]
 cases e:gone[i]? with
 | none =>
  have:=List.getElem?_eq_none_iff.1 e;rw [List.getElem?_eq_none (by rw [h.1];exact this)];rfl
 | some g =>
  obtain ⟨p,h1,h2⟩:=h.2 i g (Ah e) e;rw [List.length_map] at h2;rw [h1,Option.map_some,(Jl hc h2).1];rfl
def Mr (x:Flt) (s:Stp) (ci bi:Nat) (y:Cpy) (b:Brt):Prop:=Ig x s.copy s.berth=some (ci,bi)∧x.copies[ci]?=some y∧x.berths[bi]?=some b∧y.at_=⟨#[]⟩∧May x s.gone∧(∀ q,q∈Dl x s.gone→∀ c,x.copies[q]?=some c→c.at_=s.berth)∧Du (woF x (Dl x s.gone)) ci y b false=0
def doF (x:Flt) (s:Stp) (ci:Nat) (y:Cpy):Flt:={ x with copies:=(atP (Dl x s.gone) ⟨#[]⟩ x.copies).set ci { y with at_:=s.berth } }
def noF:Flt:=⟨false,[],[],[]⟩
def DoRes (x:Flt) (s:Stp) (r:Flt) (t:Bool):Prop:=(t=true∧∃ ci bi y b,Mr x s ci bi y b∧r=doF x s ci y)∨(t=false∧(∀ ci bi y b,¬ Mr x s ci bi y b)∧r=noF)
theorem DoRes.one {x:Flt} {s:Stp} {r r':Flt} {t t':Bool} (h:DoRes x s r t) (h':DoRes x s r' t'):r=r'∧t=t':=by
 rcases h with ⟨rfl,ci,bi,y,b,hd,rfl⟩ | ⟨rfl,hn,rfl⟩ <;> rcases h' with ⟨rfl,ci',bi',y',b',hd',rfl⟩ | ⟨rfl,hn',rfl⟩
 ·have e1:=hd.1.symm.trans hd'.1
  cases e1
  have e2:=hd.2.1.symm.trans hd'.2.1;cases e2
  exact ⟨rfl,rfl⟩
 ·exact absurd hd (hn' _ _ _ _)
 ·exact absurd hd' (hn _ _ _ _)
 ·exact ⟨rfl,rfl⟩
theorem DoRes.no {x:Flt} {s:Stp} (h:∀ ci bi y b,¬ Mr x s ci bi y b):DoRes x s noF false:=Or.inr ⟨rfl,h,rfl⟩
theorem Nh:∀ (vs a b:List Value) (o:Nat),a.length≤o→Cu (a++b) o vs=a++Cu b (o - a.length) vs
 | [],_,_,_,_=>rfl
 | v::vs,a,b,o,h=>by
  simp only [Cu];rw [List.set_append_right _ _ h,Nh vs a _ (o+1) (by omega),show o+1 - a.length=o - a.length+1 by omega]
theorem cT {base g cap n:Nat} {w:World} {e:TypeId} {s:Nat} {cs:List Value} (h:w.ownsRow base e s (.slice (some ⟨g,0,none⟩) n cap) n cs):base≤g:=by
 rcases h.2 with ⟨h1,_⟩ | ⟨g',cap',cur,h1,h2,_⟩
 ·cases h1
 ·cases h1;exact h2
theorem Vh {base n:Nat} {w:World} {e:TypeId} {s:Nat} {cs:List Value} {v:Value} (h:w.ownsRow base e s v n cs) (hn:v≠.slice none 0 0):∃ g cap,v=.slice (some ⟨g,0,none⟩) n cap:=by
 rcases h.2 with ⟨h1,_⟩ | ⟨g',cap',cur,h1,_⟩
 ·exact absurd h1 hn
 ·exact ⟨g',cap',h1⟩
def Lt (x:Lik):List Value:=[.string x.select,.int .i64 x.weight]
def Ec:List Lik→List Value
 | []=>[]
 | x::r=>Lt x++Ec r
theorem Hm (x:Lik):(Lt x).length=2:=rfl
theorem Je:∀ xs:List Lik,(Ec xs).length=xs.length*2
 | []=>rfl
 | x::r=>by
  have:=Je r;simp only [Ec,List.length_append,List.length_cons,Hm];omega
theorem Oi:∀ (xs:List Lik) (k:Nat) (x:Lik) (j:Nat),xs[k]?=some x→j<2→(Ec xs)[k*2+j]?=(Lt x)[j]?
 | [],_,_,_,h,_=>by simp at h
 | y::r,0,x,j,h,hj=>by
  simp at h;subst h;simp only [Ec];rw [List.getElem?_append_left (by rw [Hm];omega)];simp
 | y::r,k+1,x,j,h,hj=>by
  simp at h;simp only [Ec];rw [List.getElem?_append_right (by rw [Hm];omega),Hm,show (k+1)*2+j - 2=k*2+j by omega];exact Oi r k x j h hj
theorem Tp:∀ (xs:List Lik) (k:Nat) (x:Lik),xs[k]?=some x→Cu (Ec xs) (k*2) (Lt x)=Ec xs
 | [],_,_,h=>by simp at h
 | z::r,0,x,h=>by
  simp at h;subst h;rfl
 | z::r,k+1,x,h=>by
  simp at h;simp only [Ec];rw [Nh _ _ _ _ (by rw [Hm];omega),Hm,show (k+1)*2 - 2=k*2 by omega,Tp r k x h]
theorem Pr:∀ (xs:List Lik),∀ u∈Ec xs,u.oneCell'=true
 | [],u,h=>by cases h
 | x::r,u,h=>by
  simp only [Ec,List.mem_append] at h;rcases h with h | h
  ·have:∀ v∈Lt x,v.oneCell'=true:=by
    intro v hv;simp only [Lt,List.mem_cons,List.not_mem_nil,or_false] at hv;rcases hv with rfl | rfl <;> rfl
   exact this u h
  ·exact Pr r u h
theorem cR {lo:Nat} {w:World} {f:Nat→Option Value} {x:Lik} (h:LikC lo w f x) (j:Nat) (v:Value) (hv:(Lt x)[j]?=some v):f j=some v:=by
 obtain ⟨q0,q1,_⟩:=h;have hj:j<2:=Ah hv;have hc:j=0∨j=1:=by omega
 rcases hc with rfl | rfl <;> (cases hv;assumption)
theorem cQ {lo:Nat} {w:World} {f:Nat→Option Value} {x:Lik} (h:∀ j v,(Lt x)[j]?=some v→f j=some v) (z0:x.select.size≤maxLen):LikC lo w f x :=
 ⟨h 0 _ rfl,h 1 _ rfl,z0⟩
theorem rH {lo:Nat} {w:World} {b o:Nat} {xs:List Lik} (h:SliceC LikC 2 lo w (some ⟨b,o,none⟩) xs) (j:Nat) (u:Value) (hu:(Ec xs)[j]?=some u):w.cell? ((⟨b,o,none⟩:Addr).add j)=some u:=by
 have hl:j<xs.length*2:=by have:=Ah hu;rwa [Je] at this
 obtain ⟨x,hx⟩:∃ x,xs[j / 2]?=some x:=⟨xs[j / 2]'(by omega),gE (by omega)⟩;obtain ⟨b',o',e,_,_,hc⟩:=h.at hx;cases e
 rw [show j=j / 2*2+j % 2 by omega,Oi xs (j / 2) x (j % 2) hx (by omega)] at hu;have:=cR hc (j % 2) u hu;rw [Addr.add_mid,show o+j=o+j / 2*2+j % 2 by omega];exact this
def Wd (xs:List Lik) (m:Nat):Prop:=∀ x∈xs,x.select.size≤m
theorem cY {base cap:Nat} {a:OA} {w:World} {xs:List Lik} (h:w.ownsRow base 143 2 (.slice a xs.length cap) xs.length (Ec xs)) (hm:xs.length≤1048576) (hz:Wd xs maxLen):SliceC LikC 2 base w a xs:=by
 rcases h.2 with ⟨h1,_⟩ | ⟨g',cap',cur,h1,_⟩
 ·have:xs.length=0:=by injection h1
  rw [List.length_eq_zero_iff.1 this];exact SliceC.nil
 ·have e:a=some ⟨g',0,none⟩:=by injection h1
  subst e;refine ⟨by unfold maxLen;omega,.inr ⟨g',0,rfl,⟨cT h,fun _ p=>h.frozenAt p⟩,(h.lt g' rfl).2,fun k x hk=>?_⟩⟩;have hlt:=Ah hk;have hzz:=hz x (List.mem_of_getElem? hk);refine cQ (fun j v hv=>?_) hzz;have hj:j<2:=Ah hv;show w.cell? ⟨g',0+k*2+j,none⟩=some v
  have:=h.cellAt (k*2+j) (by omega);rw [Nat.zero_add];rw [this,Oi xs k x j hk hj];exact hv
theorem Rh {lo:Nat} {w:World} {a:OA} {xs:List Lik} (h:SliceC LikC 2 lo w a xs):Wd xs maxLen:=by
 intro x hx;obtain ⟨j,hj⟩:=List.getElem?_of_mem hx;obtain ⟨_,_,_,_,_,hc⟩:=h.at hj;obtain ⟨_,_,z0⟩:=hc;exact z0
def Lf (x:Svc):List Value:=[.string x.name,.int .i64 x.spare]
def Dq:List Svc→List Value
 | []=>[]
 | x::r=>Lf x++Dq r
theorem Ho (x:Svc):(Lf x).length=2:=rfl
theorem Fv:∀ xs:List Svc,(Dq xs).length=xs.length*2
 | []=>rfl
 | x::r=>by
  have:=Fv r;simp only [Dq,List.length_append,List.length_cons,Ho];omega
theorem Ot:∀ (xs:List Svc) (k:Nat) (x:Svc) (j:Nat),xs[k]?=some x→j<2→(Dq xs)[k*2+j]?=(Lf x)[j]?
 | [],_,_,_,h,_=>by simp at h
 | y::r,0,x,j,h,hj=>by
  simp at h;subst h;simp only [Dq];rw [List.getElem?_append_left (by rw [Ho];omega)];simp
 | y::r,k+1,x,j,h,hj=>by
  simp at h;simp only [Dq];rw [List.getElem?_append_right (by rw [Ho];omega),Ho,show (k+1)*2+j - 2=k*2+j by omega];exact Ot r k x j h hj
theorem Sn:∀ (xs:List Svc) (k:Nat) (x:Svc),xs[k]?=some x→Cu (Dq xs) (k*2) (Lf x)=Dq xs
 | [],_,_,h=>by simp at h
 | z::r,0,x,h=>by
  simp at h;subst h;rfl
 | z::r,k+1,x,h=>by
  simp at h;simp only [Dq];rw [Nh _ _ _ _ (by rw [Ho];omega),Ho,show (k+1)*2 - 2=k*2 by omega,Sn r k x h]
theorem Jj:∀ (xs:List Svc),∀ u∈Dq xs,u.oneCell'=true
 | [],u,h=>by cases h
 | x::r,u,h=>by
  simp only [Dq,List.mem_append] at h;rcases h with h | h
  ·have:∀ v∈Lf x,v.oneCell'=true:=by
    intro v hv;simp only [Lf,List.mem_cons,List.not_mem_nil,or_false] at hv;rcases hv with rfl | rfl <;> rfl
   exact this u h
  ·exact Jj r u h
theorem bF {lo:Nat} {w:World} {f:Nat→Option Value} {x:Svc} (h:SvcC lo w f x) (j:Nat) (v:Value) (hv:(Lf x)[j]?=some v):f j=some v:=by
 obtain ⟨q0,q1,_⟩:=h;have hj:j<2:=Ah hv;have hc:j=0∨j=1:=by omega
 rcases hc with rfl | rfl <;> (cases hv;assumption)
theorem bQ {lo:Nat} {w:World} {f:Nat→Option Value} {x:Svc} (h:∀ j v,(Lf x)[j]?=some v→f j=some v) (z0:x.name.size≤maxLen):SvcC lo w f x :=
 ⟨h 0 _ rfl,h 1 _ rfl,z0⟩
theorem Rz {lo:Nat} {w:World} {b o:Nat} {xs:List Svc} (h:SliceC SvcC 2 lo w (some ⟨b,o,none⟩) xs) (j:Nat) (u:Value) (hu:(Dq xs)[j]?=some u):w.cell? ((⟨b,o,none⟩:Addr).add j)=some u:=by
 have hl:j<xs.length*2:=by have:=Ah hu;rwa [Fv] at this
 obtain ⟨x,hx⟩:∃ x,xs[j / 2]?=some x:=⟨xs[j / 2]'(by omega),gE (by omega)⟩;obtain ⟨b',o',e,_,_,hc⟩:=h.at hx;cases e
 rw [show j=j / 2*2+j % 2 by omega,Ot xs (j / 2) x (j % 2) hx (by omega)] at hu;have:=bF hc (j % 2) u hu;rw [Addr.add_mid,show o+j=o+j / 2*2+j % 2 by omega];exact this
def Uf (xs:List Svc) (m:Nat):Prop:=∀ x∈xs,x.name.size≤m
theorem Od {base cap:Nat} {a:OA} {w:World} {xs:List Svc} (h:w.ownsRow base 103 2 (.slice a xs.length cap) xs.length (Dq xs)) (hm:xs.length≤1048576) (hz:Uf xs maxLen):SliceC SvcC 2 base w a xs:=by
 rcases h.2 with ⟨h1,_⟩ | ⟨g',cap',cur,h1,_⟩
 ·have:xs.length=0:=by injection h1
  rw [List.length_eq_zero_iff.1 this];exact SliceC.nil
 ·have e:a=some ⟨g',0,none⟩:=by injection h1
  subst e;refine ⟨by unfold maxLen;omega,.inr ⟨g',0,rfl,⟨cT h,fun _ p=>h.frozenAt p⟩,(h.lt g' rfl).2,fun k x hk=>?_⟩⟩;have hlt:=Ah hk;have hzz:=hz x (List.mem_of_getElem? hk);refine bQ (fun j v hv=>?_) hzz;have hj:j<2:=Ah hv;show w.cell? ⟨g',0+k*2+j,none⟩=some v
  have:=h.cellAt (k*2+j) (by omega);rw [Nat.zero_add];rw [this,Ot xs k x j hk hj];exact hv
theorem Lc {lo:Nat} {w:World} {a:OA} {xs:List Svc} (h:SliceC SvcC 2 lo w a xs):Uf xs maxLen:=by
 intro x hx;obtain ⟨j,hj⟩:=List.getElem?_of_mem hx;obtain ⟨_,_,_,_,_,hc⟩:=h.at hj;obtain ⟨_,_,z0⟩:=hc;exact z0
abbrev Fc (xs:List BA):List Value:=xs.map Value.string
theorem Ws (xs:List BA):(Fc xs).length=xs.length*1:=by simp
theorem Wv (ms:List BA):∀ u∈Fc ms,u.oneCell'=true:=by
 intro u hu;obtain ⟨x,_,rfl⟩:=List.mem_map.1 hu;rfl
theorem oJ {ms:List BA} {j:Nat} {u:Value} (h:(Fc ms)[j]?=some u):∃ s,ms[j]?=some s∧u=.string s:=by
 rw [List.getElem?_map] at h
 cases e:ms[j]? with
 | none=>rw [e] at h;cases h
 | some s=>rw [e] at h;cases h;exact ⟨s,rfl,rfl⟩
theorem rO {lo:Nat} {w:World} {b o:Nat} {xs:List BA} (h:SliceC StrC 1 lo w (some ⟨b,o,none⟩) xs) (j:Nat) (u:Value) (hu:(Fc xs)[j]?=some u):w.cell? ((⟨b,o,none⟩:Addr).add j)=some u:=by
 obtain ⟨s,hs,rfl⟩:=oJ hu;obtain ⟨b',o',e,_,_,hc⟩:=h.at hs;cases e
 have:=hc.1;simp only [Nat.mul_one,Nat.add_zero] at this;rw [Addr.add_mid];exact this
def Xf (xs:List BA) (m:Nat):Prop:=∀ x∈xs,x.size≤m
theorem Rf {lo:Nat} {w:World} {a:OA} {xs:List BA} (h:SliceC StrC 1 lo w a xs):Xf xs maxLen:=by
 intro x hx;obtain ⟨j,hj⟩:=List.getElem?_of_mem hx;obtain ⟨_,_,_,_,_,hc⟩:=h.at hj;exact hc.2
theorem cH {base cap:Nat} {a:OA} {w:World} {xs:List BA} (h:w.ownsRow base 9 1 (.slice a xs.length cap) xs.length (Fc xs)) (hm:xs.length≤1048576) (hz:Xf xs maxLen):SliceC StrC 1 base w a xs:=by
 rcases h.2 with ⟨h1,_⟩ | ⟨g',cap',cur,h1,_⟩
 ·have:xs.length=0:=by injection h1
  rw [List.length_eq_zero_iff.1 this];exact SliceC.nil
 ·have e:a=some ⟨g',0,none⟩:=by injection h1
  subst e;refine ⟨by unfold maxLen;omega,.inr ⟨g',0,rfl,⟨cT h,fun _ p=>h.frozenAt p⟩,(h.lt g' rfl).2,fun k x hk=>⟨?_,hz x (List.mem_of_getElem? hk)⟩⟩⟩;have hlt:=Ah hk;have:=h.cellAt k (by omega);simp only [Nat.mul_one,Nat.add_zero,Nat.zero_add];rw [this,List.getElem?_map,hk];rfl
theorem Qp {P:Program} {w:World} (base:Nat) (t ty e:TypeId) (i:TypeInfo) (size c:Nat) (ht:P.underlying t=some (.slice e)) (hi:P.info? e=some i)
  (v:Value) (n:Nat) (xs:List Value) (hown:w.ownsRow base e size v n xs) :
  (Builtin.append_ #[t,t] ty #[v,.slice none 0 c]).run P w=.ok v w:=by
 rcases hown.2 with ⟨rfl,rfl⟩ | ⟨g,cap,cur,rfl,_,_,hnc,_⟩
 ·simp [Builtin.append_,run_underlying ht,sizeOf,typeInfo,hi,Builtin.lenOf,Builtin.firstCells]
 ·simp [Builtin.append_,run_underlying ht,sizeOf,typeInfo,hi,Builtin.lenOf,Builtin.firstCells,hnc,storeCells]
theorem Kp {P:Program} {w:World} {ops:Array Oper} {rest:List Oper} {o:Oper} {a:Act} {Q:Exit→Act→World→Prop} (hgd:o.guard=none) (s x:Operand) (t:TypeId)
  (ho:o.op=.call { callee:=.builtin .append,args:=#[s,x],argTypes:=#[t,t] })
  (base:Nat) (e:TypeId) (i:TypeInfo) (z:Value) (size bytes:Nat) (ht:P.underlying t=some (.slice e)) (hi:P.info? e=some i) (hz:i.zero=some z)
  (hsize:i.size=size) (hby:i.bytes=bytes) (hzs:z.cells.size=size) (hsz:0<size)
  (v:Value) (n:Nat) (xs:List Value) (hs:a.eval s=v) (hown:w.ownsRow base e size v n xs)
  (ao:OA) (m c:Nat) (news:List Value) (hx:a.eval x=.slice ao m c) (hno:ao=none→m=0) (hl:news.length=m*size) (hnews:∀ ad,ao=some ad→∀ j u,news[j]?=some u→w.cell? (ad.add j)=some u) (h1:∀ u∈news,u.oneCell'=true)
  (h63:n+m≤maxLen) (hbytes:(n+m)*bytes≤140737488355328) (hbase:base≤w.heap.size)
  (h:∀ v' w',w'.ownsRow base e size v' (n+m) (xs++news)→w.grownBy w' v.ownBlock→(v'=.slice none 0 0↔v=.slice none 0 0∧m=0)→wpList P ops Q rest (a.put o.dst v') w'):wpList P ops Q (o::rest) a w:=by
 cases ao with
 | some ad=>exact wpList_append_own w hgd s x t ho base e i z size bytes ht hi hz hsize hby hzs hsz v n xs hs hown ad m c news hx hl (hnews ad rfl) h1 h63 hbytes hbase h
 | none =>
  obtain rfl:=hno rfl;have hn:news=[]:=List.length_eq_zero_iff.1 (by omega);subst hn;have hrun:=Qp (P:=P) (w:=w) base t o.type e i size c ht hi v n xs hown;refine wpList_plain hgd fun K hK=>?_
  unfold Oper.wp;simp [execOp,ho,resolve,invoke,builtin,hs,hx,hrun,Result.andThen];exact hK _ _ (h v w (by simpa using hown) ⟨rfl,rfl,rfl,Nat.le_refl _,fun _ _ _=>rfl⟩ (by simp))
theorem SliceC.nilD {α:Type} {C:Ej α} {n lo:Nat} {w:World} {a:OA} {xs:List α} (h:SliceC C n lo w a xs) (e:a=none):xs.length=0:=by
 rcases h.2 with h | ⟨b,o,h,_⟩
 ·rw [h];rfl
 ·rw [e] at h;cases h
theorem dC {lo:Nat} {w:World} {a:OA} {xs:List BA} (h:SliceC StrC 1 lo w a xs):∀ ad,a=some ad→∀ j u,(Fc xs)[j]?=some u→w.cell? (ad.add j)=some u:=by
 intro ad e j u hu;rcases h.2 with h' | ⟨b,o,e',_⟩
 ·subst h';cases hu
 ·rw [e] at e';cases e';subst e;exact rO h j u hu
theorem cX {lo:Nat} {w:World} {a:OA} {xs:List Lik} (h:SliceC LikC 2 lo w a xs):∀ ad,a=some ad→∀ j u,(Ec xs)[j]?=some u→w.cell? (ad.add j)=some u:=by
 intro ad e j u hu;rcases h.2 with h' | ⟨b,o,e',_⟩
 ·subst h';cases hu
 ·rw [e] at e';cases e';subst e;exact rH h j u hu
theorem qD {lo:Nat} {w:World} {a:OA} {xs:List Svc} (h:SliceC SvcC 2 lo w a xs):∀ ad,a=some ad→∀ j u,(Dq xs)[j]?=some u→w.cell? (ad.add j)=some u:=by
 intro ad e j u hu;rcases h.2 with h' | ⟨b,o,e',_⟩
 ·subst h';cases hu
 ·rw [e] at e';cases e';subst e;exact Rz h j u hu
end Go.Proofs.YtjoeojhdkoidbaaGreat
