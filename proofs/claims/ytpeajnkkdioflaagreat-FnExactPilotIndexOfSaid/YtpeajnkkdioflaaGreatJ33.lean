import Derived.Test.YtpeajnkkdioflaaGreatVlS
import Derived.Laws.ResultCell
set_option maxHeartbeats 2000000
set_option maxRecDepth 100000
namespace Go.Proofs.YtpeajnkkdioflaaGreat
open Go.RowKit
def It (ns:List P.Nd):Bool:=P.treeOk ns && (P.treeI ns).isSome
theorem Yk {ns:List P.Nd} (h:P.treeOk ns=true):ns.length≤400:=by
 rw [Ga] at h;simp only [Bool.and_eq_true,decide_eq_true_eq] at h;exact h.1.1
theorem bV (ns:List P.Nd) (g cn:Nat) (w:World) (hN:Nodes0 w g ns) (hsm:Vt ns) :
  Calls Tryz.prog 118 #[.agg #[.slice (some ⟨g,0,none⟩) ns.length cn]] w fun e w'=>e=.returned (.bool (It ns))∧Below w.heap.size w w':=by
 have HN:Hid (Nodes0 w g ns):=hN;have HS:Hid (Vt ns):=hsm;clear hN hsm
 cases ht:P.treeOk ns with
 | false =>
  have HT:Hid (P.treeOk ns=false):=ht;have HV:Hid (It ns=false):=by show _=_;rw [It,ht];rfl
  clear ht;go_enter Tryz.func118,Tryz.ntmps118;go_wp2_with fail;refine (Qr ns g cn _ (HN.out.grown (by go_grown)) HS.out).mono ?_;rintro e w1 ⟨rfl,hb⟩;rw [HT.out];go_wp2_with fail;go_ret;exact ⟨by rw [HV.out];rfl,((Below.refl _ w).alloc nL _).trans (hb.mono (by simp))⟩
 | true =>
  obtain ⟨out,r,t,hko,hol,hrl,hIs,hlo,hhi,_,hct⟩:=P.same_tree2 ht;have hlen:=Yk ht;have HT:Hid (P.treeOk ns=true):=ht;have HKO:Hid (P.kidsOf ns=some (out,[r])):=hko;have cc:=fun go co=>eE ns out ns.length co go hol t r hIs (by omega)
  rw [show ((r:Nat):Int)=(ns.length:Int) - 1 by omega] at cc;have HC:Hid (∀ (go co:Nat) (w:World),KidsIn w go out→Calls Tryz.prog 145 #[.slice (some ⟨go,0,none⟩) ns.length co,.int .i64 ((ns.length:Int) - 1)] w fun e w'=>e=.returned (.int .i64 (P.tall t:Int))∧w'=w):=cc;have hl1:1≤ns.length:=by omega
  have HV:Hid (It ns=decide (P.tall t≤20)):=by
   show _=_
   rw [It,ht];by_cases h:P.tall t≤20
   ·rw [hlo h,decide_eq_true h];rfl
   ·rw [hhi (by omega),decide_eq_false h];rfl
  have htl:P.tall t≤400:=Nat.le_trans (P.tall_le_count t) (by omega);clear ht hko cc hIs hlo hhi hct hrl hol;generalize hT:P.tall t=T at *;clear hT;go_enter Tryz.func118,Tryz.ntmps118;go_wp2_with fail;refine (Qr ns g cn _ (HN.out.grown (by go_grown)) HS.out).mono ?_;rintro e w1 ⟨rfl,hb⟩;rw [HT.out];have hB1:Below w.heap.size w w1:=((Below.refl _ w).alloc nL _).trans (hb.mono (by simp));have hc1:w1.cell? ⟨w.heap.size,0,none⟩=some (.slice (some ⟨g,0,none⟩) ns.length cn):=(hb.cell (p:=⟨w.heap.size,0,none⟩) (by simp)).trans (by simp);have hz1:w.heap.size<w1.heap.size:=by have:=hb.size;simp at this;omega
  clear hb;go_wp2_with fail;refine (Uq ns g cn _ (HN.out.grown hB1) hlen).mono ?_;rintro e w2 ⟨hb2,h2⟩;rw [HKO.out] at h2;obtain ⟨go,co,rfl,hkin,_⟩:=h2;have hc2:w2.cell? ⟨w.heap.size,0,none⟩=some (.slice (some ⟨g,0,none⟩) ns.length cn):=(hb2.cell (p:=⟨w.heap.size,0,none⟩) hz1).trans hc1;have HB:Hid (Below w.heap.size w w2):=hB1.trans (hb2.mono (by omega));have HK:Hid (KidsIn w2 go out):=hkin;clear hb2 hkin hc1;go_wp2_with fail;refine (HC.out _ _ _ HK.out).mono ?_;rintro e w3 ⟨rfl,rfl⟩;by_cases h20:T≤20
  ·go_wp2_with fail
   go_ret;exact ⟨by rw [HV.out,decide_eq_true h20];simp;omega,HB.out⟩
  ·go_wp2_with fail
   go_ret;exact ⟨by rw [HV.out,decide_eq_false h20];simp;omega,HB.out⟩
theorem Yp {y:P.Tr} (hw:P.wf y) (h:nOk y) (hc:P.count y≤400):It (post y)=decide (P.tall y≤20):=by
 unfold It;rw [Oz hw h];by_cases h20:P.tall y≤20
 ·rw [if_pos h20,decide_eq_true h20]
  cases ht:P.treeOk (post y) with
  | true=>rfl
  | false =>
   have:=P.no_tree (by rw [Wj y hw];exact hc) ht;rw [Oz hw h,if_pos h20] at this;cases this
 ·rw [if_neg h20,decide_eq_false h20]
  simp
theorem Xe {w:World} {g:Nat} {ns:List P.Nd} (hg:g<w.heap.size) (h:w.rangeAt g 0 (Bz ns)):Nodes0 w g ns:=by
 refine ⟨hg,fun j n hj=>?_⟩;have key:∀ (ns:List P.Nd) (j:Nat) (n:P.Nd),ns[j]?=some n→∀ c,c<4→(Bz ns)[j*4+c]?=(ndv n)[c]?:=by
  intro ns
  induction ns with
  | nil=>intro j n hj;simp at hj
  | cons m r ih =>
   intro j n hj c hc;have e:Bz (m::r)=ndv m++Bz r:=rfl
   cases j with
   | zero =>
    simp at hj;subst hj;rw [e,List.getElem?_append_left (by simp [ndv];omega)];simp
   | succ j =>
    simp at hj;rw [e,List.getElem?_append_right (by simp [ndv];omega),← ih j n hj c hc]
    congr 1
    simp [ndv];omega
 have k0:=h (j*4) _ (by have:=key ns j n hj 0 (by omega);simpa [ndv] using this);have k1:=h (j*4+1) _ (by have:=key ns j n hj 1 (by omega);simpa [ndv] using this);have k2:=h (j*4+2) _ (by have:=key ns j n hj 2 (by omega);simpa [ndv] using this);have k3:=h (j*4+3) _ (by have:=key ns j n hj 3 (by omega);simpa [ndv] using this);simp only [Nat.zero_add] at k0 k1 k2 k3;exact ⟨k0,k1,k2,k3⟩
theorem gH {t:ByteArray} (ht:t.size≤200) (h:(Ab t 0).all Dv=false):Ay t=2:=by
 unfold Ay;rw [if_neg (by omega),if_neg (fun e=>by rw [e] at h;cases h)]
 cases hr:P.rd 1000 2 P.nonT (Ab t 0) with
 | none=>rfl
 | some p =>
  obtain ⟨y,r⟩:=p
  cases r with
  | nil =>
   obtain ⟨_,pre,e1,e2⟩:=Fk 1000 2 _ _ _ _ (fun h=>by omega) hr;rw [List.append_nil] at e1;rw [e1,e2] at h;cases h
  | cons a b=>rfl
theorem Zl:∀ (l:List UInt8),∀ x∈P.toks l,x.length≤l.length
 | [],x,h=>by cases h
 | c::r,x,h=>by
  have ih:=Zl r;rw [P.toks_cons] at h
  split at h
  ·have:=ih x h;simp;omega
  ·split at h
   ·cases r with
    | nil=>simp [P.onto,P.toks] at h;subst h;simp
    | cons d r' =>
     cases hT:P.toks (d::r') with
     | nil=>rw [hT] at h;simp [P.onto] at h;subst h;simp
     | cons a b =>
      rw [hT] at h ih;have ha:=ih a (by simp);by_cases hd:P.letter d=true
      ·simp [P.onto,hd] at h
       rcases h with rfl | h
       ·simp at ha ⊢;omega
       ·have:=ih x (by simp [h]);simp at this ⊢;omega
      ·simp [P.onto,hd] at h
       rcases h with rfl | rfl | h
       ·simp
       ·simp at ha ⊢;omega
       ·have:=ih x (by simp [h]);simp at this ⊢;omega
   ·rcases List.mem_cons.1 h with rfl | h
    ·simp
    ·have:=ih x h;simp;omega
def Ht (t:ByteArray):List P.Nd:=if Ay t=0 then post (Gy t) else []
theorem Co {t:ByteArray} {c:Nat} (h:Ay t=c) (hc:c≠0):Ht t=[]:=by
 unfold Ht;rw [if_neg (by rw [h];exact hc)]
theorem Im {t:ByteArray} {y:P.Tr} (h:Ay t=0) (hy:Gy t=y):Ht t=post y:=by
 unfold Ht;rw [if_pos h,hy]
def mO (w:World) (B:Nat) (a:Option Addr) (ns:List P.Nd):Prop:=(ns=[]∧a=none)∨∃ g,a=some ⟨g,0,none⟩∧B≤g∧Nodes0 w g ns
def kW (t:ByteArray) (w:World) (e:Ending) (w':World):Prop:=∃ a c,e=.returned (.tuple #[.agg #[.slice a (Ht t).length c],.int .i64 (Ay t:Nat)])∧mO w' w.heap.size a (Ht t)∧Below w.heap.size w w'
theorem bC (t:ByteArray) (w:World) (hm:t.size≤maxLen) :
  Calls Tryz.prog 95 #[.string t] w fun e w'=>kW t w e w':=by
 unfold maxLen at hm;by_cases hbig:(200:Int)<t.size
 ·have HC:Hid (Ay t=1):=by show _=_;unfold Ay;rw [if_pos (by omega)]
  go_enter Tryz.func95,Tryz.ntmps95;go_wp2_with fail;refine bodyPost_ret (v:=.tuple #[.agg #[.slice none 0 0],.int .i64 1]) (by rw [results_cell_tmp rfl];simp [go_sem]) rfl ⟨none,0,by rw [HC.out,Co HC.out (by omega)];rfl,.inl ⟨Co HC.out (by omega),rfl⟩,by go_grown⟩
 have ht:t.size≤200:=by omega
 go_enter Tryz.func95,Tryz.ntmps95;go_wp2_with fail;refine (Xw t _ ht).mono ?_;rintro e w1 ⟨v,rfl,h1,h2⟩;have kr:w1.cell? ⟨w.heap.size,0,none⟩=some (.slice none 0 0):=(h2.cell (p:=⟨w.heap.size,0,none⟩) (by simp)).trans (by simp);have fr:w1.frozen? ⟨w.heap.size,0,none⟩=false:=(h2.frozen (p:=⟨w.heap.size,0,none⟩) (by simp)).trans (by simp);have HB1:Hid (Below w.heap.size w w1):=(show Below w.heap.size w _ by go_grown).trans (h2.mono (by simp));have hs1:w.heap.size<w1.heap.size:=by have:=h2.size;simp at this;omega
 cases hok:(Ab t 0).all Dv with
 | false =>
  have HC:Hid (Ay t=2):=gH ht hok;clear hok h1 h2;go_wp2_with fail;refine bodyPost_ret (v:=.tuple #[.agg #[.slice none 0 0],.int .i64 2]) (by rw [results_cell_tmp rfl];simp [go_sem,kr]) rfl ⟨none,0,by rw [HC.out,Co HC.out (by omega)];rfl,.inl ⟨Co HC.out (by omega),rfl⟩,HB1.out.setCell nL _⟩
 | true =>
  obtain ⟨g,c,rfl,hrow⟩:=h1 hok;have hwb:w.heap.size+1≤g:=by have:=(hrow.lt g rfl).1;simpa using this
  have hgl:g<w1.heap.size:=(hrow.lt g rfl).2;have HROW:Hid (∀ j l,(Ab t 0)[j]?=some l→w1.cell? ⟨g,j,none⟩=some (.string (P.bts l))):=fun j l hj=>by
   have hlt:=Ad hj;rw [hrow.cellAt j (by omega)];simp [Nh,hj]
  clear h1 h2 hrow hok;have hl200:=Hd (i:=0) ht;have HZ:Hid (∀ l∈Ab t 0,l.length≤200):=fun l hl=>by
   have:=Zl _ l hl;have h3:(t.data.toList.drop 0).length=t.size:=by simp
   omega
  have HC0:Hid (Ay t=if Ab t 0=[] then 0 else match P.rd 1000 2 P.nonT (Ab t 0) with
   | some (y,[])=>if 20<P.tall y then 3 else 0
   | _=>2):=by show _=_;unfold Ay;rw [if_neg (by omega)];rfl
  have HT0:Hid (Gy t=if Ab t 0=[] then P.nonT else match P.rd 1000 2 P.nonT (Ab t 0) with
   | some (y,_)=>y
   | none=>P.nonT):=rfl
  generalize Ab t 0=L at *;by_cases hL:L=[]
  ·subst hL
   have HC:Hid (Ay t=0):=by rw [HC0.out,if_pos rfl];rfl
   have HN:Hid (Ht t=[⟨0,⟨#[]⟩,⟨#[]⟩,0⟩]):=(Im HC.out (by rw [HT0.out,if_pos rfl])).trans rfl;clear HT0;go_wp2_with fail;refine bodyPost_ret (v:=.tuple #[.agg #[.slice (some ⟨w1.heap.size,0,none⟩) 1 1],.int .i64 0]) (by rw [results_cell_tmp rfl];simp [go_sem,kr,hs1]) rfl ⟨some ⟨w1.heap.size,0,none⟩,1,(by rw [HC.out,HN.out];rfl),.inr ⟨w1.heap.size,rfl,by omega,?_⟩,(by have:=HB1.out;go_grown)⟩;rw [HN.out];refine ⟨by simp,fun j n hj=>?_⟩
   cases j with
   | zero=>cases hj;exact ⟨by rw [World.cell?_alloc_at _ _ _ _ (by simp [World.setCell])];rfl,by rw [World.cell?_alloc_at _ _ _ _ (by simp [World.setCell])];rfl,by rw [World.cell?_alloc_at _ _ _ _ (by simp [World.setCell])];rfl,by rw [World.cell?_alloc_at _ _ _ _ (by simp [World.setCell])];rfl⟩
   | succ j=>simp at hj
  ·have HC1:Hid (Ay t=match P.rd 1000 2 P.nonT L with
    | some (y,[])=>if 20<P.tall y then 3 else 0
    | _=>2):=by rw [HC0.out,if_neg hL];rfl
   have HT1:Hid (Gy t=match P.rd 1000 2 P.nonT L with
    | some (y,_)=>y
    | none=>P.nonT):=by rw [HT0.out,if_neg hL];rfl
   clear HT0;have hlp:0<L.length:=List.length_pos_iff.2 hL;have hl0:¬ (L.length:Int)=0:=by omega
   clear HC0 hL;go_wp2_with fail;have hal2:Below w1.heap.size w1 (w1.alloc (Obj.cells #[.slice (some ⟨g,0,none⟩) L.length c,.int .i64 0,.bool false] 184)):=(Below.refl _ _).alloc nL _;have PS:Hid (PsAt (w1.alloc (Obj.cells #[.slice (some ⟨g,0,none⟩) L.length c,.int .i64 0,.bool false] 184)) w1.heap.size g c L 0 false):=⟨by simp,by simp,by simp,by simp,by simp,by omega,by simp;omega,fun j l hj=>(hal2.cell (p:=⟨g,j,none⟩) hgl).trans (HROW.out j l hj)⟩;have kr2:(w1.alloc (Obj.cells #[.slice (some ⟨g,0,none⟩) L.length c,.int .i64 0,.bool false] 184)).cell? ⟨w.heap.size,0,none⟩=some (.slice none 0 0):=(hal2.cell (p:=⟨w.heap.size,0,none⟩) hs1).trans kr;have fr2:(w1.alloc (Obj.cells #[.slice (some ⟨g,0,none⟩) L.length c,.int .i64 0,.bool false] 184)).frozen? ⟨w.heap.size,0,none⟩=false:=(hal2.frozen (p:=⟨w.heap.size,0,none⟩) hs1).trans fr;have HB2:Hid (Below w.heap.size w (w1.alloc (Obj.cells #[.slice (some ⟨g,0,none⟩) L.length c,.int .i64 0,.bool false] 184))):=HB1.out.alloc (by omega) _;have hs2:w1.heap.size<(w1.alloc (Obj.cells #[.slice (some ⟨g,0,none⟩) L.length c,.int .i64 0,.bool false] 184)).heap.size:=by simp
   clear hal2 kr fr HROW HB1;generalize w1.alloc (Obj.cells #[.slice (some ⟨g,0,none⟩) L.length c,.int .i64 0,.bool false] 184)=w2 at *;refine ((fR w1.heap.size g c L hl200 HZ.out 1000 1000 nL).2.2 0 _ PS.out (Nat.zero_le _) (by omega)).mono ?_;rintro e w3 ⟨v,ns,k,b,rfl,f1,_,f3,f4,f5,f6⟩;obtain ⟨gn,cn,hv,hBg,hgn,hrg⟩:=f4;have HGN:Hid (w.heap.size<gn):=by show _<_;omega
   subst hv;have hb3:Below w1.heap.size w2 w3:=f5.below (by omega) nL;have kr3:w3.cell? ⟨w.heap.size,0,none⟩=some (.slice none 0 0):=(hb3.cell (p:=⟨w.heap.size,0,none⟩) hs1).trans kr2;have fr3:w3.frozen? ⟨w.heap.size,0,none⟩=false:=(hb3.frozen (p:=⟨w.heap.size,0,none⟩) hs1).trans fr2;have HB3:Hid (Below w.heap.size w w3):=HB2.out.trans (hb3.mono (by omega));have hs3:w1.heap.size<w3.heap.size:=Nat.lt_of_lt_of_le hs2 f5.size;have hs3':w.heap.size<w3.heap.size:=by omega
   have HP3:Hid (PsAt w3 w1.heap.size g c L k b):=f1;have HN3:Hid (Nodes0 w3 gn ns):=Xe hgn hrg;have F6:Hid ((b=false∧ns.length+0≤k∧∃ y,P.rd 1000 2 P.nonT (L.drop 0)=some (y,L.drop k)∧ns=post y)∨(b=true∧ns.length+0≤k+1∧P.rd 1000 2 P.nonT (L.drop 0)=none)):=f6;obtain ⟨p0,p1,p2,_,_,_,_,_⟩:=f1;clear f5 f6 hb3 kr2 fr2 HB2 hs2 PS hrg hgn
   cases b with
   | true =>
    have HC2:Hid (Ay t=2):=by
     rcases F6.out with ⟨e,_⟩ | ⟨_,_,e3⟩
     ·cases e
     ·rw [List.drop_zero] at e3
      rw [HC1.out,e3];rfl
    clear HC1 F6 HN3 HP3;go_wp2_with fail;exact bodyPost_ret (v:=.tuple #[.agg #[.slice none 0 0],.int .i64 2]) (by rw [results_cell_tmp rfl];simp [go_sem,kr3,hs3']) rfl ⟨none,0,(by rw [HC2.out,Co HC2.out (by omega)];rfl),.inl ⟨Co HC2.out (by omega),rfl⟩,(by have:=HB3.out;go_grown)⟩
   | false =>
    obtain ⟨y,e3,e4⟩:∃ y,P.rd 1000 2 P.nonT L=some (y,L.drop k)∧ns=post y:=by
     rcases F6.out with ⟨_,_,y,e3,e4⟩ | ⟨e,_⟩
     ·rw [List.drop_zero] at e3;exact ⟨y,e3,e4⟩
     ·cases e
    by_cases hkl:k<L.length
    ·have HC2:Hid (Ay t=2):=by
      rw [HC1.out,e3];rw [List.drop_eq_getElem_cons hkl];rfl
     have hkl':(k:Int)<(L.length:Int):=by omega
     clear HC1 F6 HN3 HP3 e3 e4;go_wp2_with fail;exact bodyPost_ret (v:=.tuple #[.agg #[.slice none 0 0],.int .i64 2]) (by rw [results_cell_tmp rfl];simp [go_sem,kr3,hs3']) rfl ⟨none,0,(by rw [HC2.out,Co HC2.out (by omega)];rfl),.inl ⟨Co HC2.out (by omega),rfl⟩,(by have:=HB3.out;go_grown)⟩
    ·obtain ⟨_,a2,a3,_,a5,a6⟩:=P.rd_rd 1000 2 P.nonT _ _ _ (fun h=>by omega) e3
     obtain ⟨b1,_⟩:=Fk 1000 2 P.nonT _ _ _ (fun h=>by omega) e3;rw [if_pos (by omega)] at a5;have HC2:Hid (Ay t=if 20<P.tall y then 3 else 0):=by
      rw [HC1.out,e3,List.drop_eq_nil_of_le (by omega)];rfl
     have HY:Hid (Gy t=y):=by rw [HT1.out,e3];rfl
     have HE4:Hid (ns=post y):=e4;have HV:Hid (It ns=decide (P.tall y≤20)):=by rw [e4];exact Yp a3 b1 (by omega)
     have HSM:Hid (Vt ns):=by
      rw [e4];refine ⟨by rw [Wj y a3];omega,fun n hn=>?_⟩;have:=Yv y a3 b1 n hn;omega
     have hkl':¬ (k:Int)<(L.length:Int):=by omega
     clear HC1 F6 HP3 e3 e4 a2 a3 a5 a6 b1;go_wp2_with fail;have hal:Below w3.heap.size w3 (w3.alloc (Obj.cells #[.slice (some ⟨gn,0,none⟩) ns.length cn] 154)):=(Below.refl _ _).alloc nL _;refine (bV ns gn cn _ (HN3.out.grown hal) HSM.out).mono ?_;rintro e w5 ⟨rfl,hb5⟩;have kr5:w5.cell? ⟨w.heap.size,0,none⟩=some (.slice none 0 0):=(hb5.cell (p:=⟨w.heap.size,0,none⟩) (by simp;omega)).trans ((hal.cell (p:=⟨w.heap.size,0,none⟩) hs3').trans kr3);have fr5:w5.frozen? ⟨w.heap.size,0,none⟩=false:=(hb5.frozen (p:=⟨w.heap.size,0,none⟩) (by simp;omega)).trans ((hal.frozen (p:=⟨w.heap.size,0,none⟩) hs3').trans fr3);have kx5:w5.cell? ⟨w3.heap.size,0,none⟩=some (.slice (some ⟨gn,0,none⟩) ns.length cn):=(hb5.cell (p:=⟨w3.heap.size,0,none⟩) (by simp)).trans (by simp);have HB5:Hid (Below w.heap.size w w5):=(HB3.out.trans (hal.mono HB3.out.size)).trans (hb5.mono (by simp;omega));rw [HV.out];have HN5:Hid (Nodes0 w5 gn ns):=(HN3.out.grown hal).grown hb5;clear hb5 hal HV HSM HN3 HB3 kr3 fr3 p0 p1 p2;by_cases h20:P.tall y≤20
     ·rw [decide_eq_true h20]
      have HC3:Hid (Ay t=0):=by rw [HC2.out,if_neg (by omega)];rfl
      clear HC2;go_wp2_with fail;exact bodyPost_ret (v:=.tuple #[.agg #[.slice (some ⟨gn,0,none⟩) ns.length cn],.int .i64 0]) (by rw [results_cell_tmp rfl];simp [go_sem,kr5]) rfl ⟨some ⟨gn,0,none⟩,cn,(by rw [HC3.out,Im HC3.out HY.out,← HE4.out];rfl),.inr ⟨gn,rfl,Nat.le_of_lt HGN.out,by rw [Im HC3.out HY.out,← HE4.out];exact Nodes0.setCell (a:=⟨w.heap.size,0,none⟩) HN5.out (by show gn≠w.heap.size;have:=HGN.out;omega) _⟩,(by have:=HB5.out;go_grown)⟩
     ·rw [decide_eq_false h20]
      have HC3:Hid (Ay t=3):=by rw [HC2.out,if_pos (by omega)];rfl
      clear HC2;go_wp2_with fail;exact bodyPost_ret (v:=.tuple #[.agg #[.slice none 0 0],.int .i64 3]) (by rw [results_cell_tmp rfl];simp [go_sem,kr5]) rfl ⟨none,0,(by rw [HC3.out,Co HC3.out (by omega)];rfl),.inl ⟨Co HC3.out (by omega),rfl⟩,(by have:=HB5.out;go_grown)⟩
theorem Lk (t:ByteArray) (w:World) (hm:t.size≤maxLen) :
  Calls Tryz.prog 77 #[.string t] w fun e w'=>e=.returned (.bool (decide (Ay t=0)))∧Below w.heap.size w w':=by
 go_enter Tryz.func77,Tryz.ntmps77;go_wp2_with fail;refine (bC t _ hm).mono ?_;rintro e w1 ⟨a,c,rfl,_,hb⟩;have HB:Hid (Below w.heap.size w w1):=hb;have hz:=hb.size;clear hb;go_wp2_with fail;go_ret;exact ⟨Ae (by rw [Bool.eq_iff_iff];simp),by have:=HB.out;go_grown⟩
end Go.Proofs.YtpeajnkkdioflaaGreat
