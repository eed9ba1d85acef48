import Derived.Test.YtpeajnkkdioflaaGreatJ38
set_option maxHeartbeats 2000000
namespace Go.Proofs.YtpeajnkkdioflaaGreat
open Go.RowKit
def SmR (r:Rwp):Prop:=Bw r.berth≤1048576∧wS Vx r.counts≤1048576
theorem cH (x:Rwp) (a2:Option Addr) (c2:Nat) (a9:Option Addr) (c9:Nat) (a2p:Option Addr) (c2p:Nat) (a9p:Option Addr) (c9p:Nat) (lo lo':Nat) (w:World) (n2:SliceC StrC 1 lo w a2 x.berth.marks) (n9:SliceC CntC 4 lo w a9 x.counts) (p2:SliceC StrC 1 lo' w a2p x.berth.marks) (p9:SliceC CntC 4 lo' w a9p x.counts) (hsm:SmR x) :
  Calls Tryz.prog 64 #[.agg #[.string x.berth.name,.string x.berth.zone,.slice a2 x.berth.marks.length c2,.int .i64 x.berth.room,.int .i64 x.berth.hold,.bool x.berth.closed,.int .i64 x.room,.int .i64 x.hold,.int .i64 x.stand,.slice a9 x.counts.length c9],.agg #[.string x.berth.name,.string x.berth.zone,.slice a2p x.berth.marks.length c2p,.int .i64 x.berth.room,.int .i64 x.berth.hold,.bool x.berth.closed,.int .i64 x.room,.int .i64 x.hold,.int .i64 x.stand,.slice a9p x.counts.length c9p]] w fun e w'=>e=.returned (.bool true)∧Below w.heap.size w w':=by
 have N2:=iH n2;have N9:=iH n9;have P2:=iH p2;have P9:=iH p9;obtain ⟨M1,M2⟩:=hsm;clear n2 n9 p2 p9;go_enter Tryz.func64,Tryz.ntmps64;go_wp2_with fail;refine (Rr x.berth a2 c2 a2p c2p lo lo' _ (N2.out.below StrC.holds (B:=w.heap.size) (by go_grown) nL) (P2.out.below StrC.holds (B:=w.heap.size) (by go_grown) nL) M1).mono ?_;rintro e w1 ⟨rfl,hb1⟩;have hB1:Below w.heap.size w w1:=(show Below w.heap.size w _ by go_grown).trans (hb1.mono (by simp;omega));have k1_6:w1.cell? ⟨w.heap.size,6,none⟩=some (.int .i64 x.room):=(hb1.cell (p:=⟨w.heap.size,6,none⟩) (by simp;omega)).trans (by simp);have l1_6:w1.cell? ⟨w.heap.size+1,6,none⟩=some (.int .i64 x.room):=(hb1.cell (p:=⟨w.heap.size+1,6,none⟩) (by simp)).trans (by simp);have k1_7:w1.cell? ⟨w.heap.size,7,none⟩=some (.int .i64 x.hold):=(hb1.cell (p:=⟨w.heap.size,7,none⟩) (by simp;omega)).trans (by simp);have l1_7:w1.cell? ⟨w.heap.size+1,7,none⟩=some (.int .i64 x.hold):=(hb1.cell (p:=⟨w.heap.size+1,7,none⟩) (by simp)).trans (by simp);have k1_8:w1.cell? ⟨w.heap.size,8,none⟩=some (.int .i64 x.stand):=(hb1.cell (p:=⟨w.heap.size,8,none⟩) (by simp;omega)).trans (by simp);have l1_8:w1.cell? ⟨w.heap.size+1,8,none⟩=some (.int .i64 x.stand):=(hb1.cell (p:=⟨w.heap.size+1,8,none⟩) (by simp)).trans (by simp);have k1_9:w1.cell? ⟨w.heap.size,9,none⟩=some (.slice a9 x.counts.length c9):=(hb1.cell (p:=⟨w.heap.size,9,none⟩) (by simp;omega)).trans (by simp);have l1_9:w1.cell? ⟨w.heap.size+1,9,none⟩=some (.slice a9p x.counts.length c9p):=(hb1.cell (p:=⟨w.heap.size+1,9,none⟩) (by simp)).trans (by simp);have hs1:w.heap.size+1<w1.heap.size:=by have:=hb1.size;simp at this;omega
 clear hb1;go_wp2_with fail;refine (Kj x.counts a9 a9p c9 c9p lo lo' _ (N9.out.below CntC.holds (B:=w.heap.size) hB1 nL) (P9.out.below CntC.holds (B:=w.heap.size) hB1 nL) M2).mono ?_;rintro e w2 ⟨rfl,hb2⟩;have hB2:Below w.heap.size w w2:=hB1.trans (hb2.mono (by omega));clear hb2 hB1 hs1 k1_6 l1_6 k1_7 l1_7 k1_8 l1_8 k1_9 l1_9;go_wp2_with fail;go_ret;exact ⟨rfl,hB2⟩
theorem Xc (xs:List Rwp) (a a':Option Addr) (cap cap' lo lo':Nat) (w:World) (hg:SliceC RwpC 10 lo w a xs) (hh:SliceC RwpC 10 lo' w a' xs) (hlen:xs.length≤1048576) (hsm:∀ x∈xs,SmR x) :
  Calls Tryz.prog 24 #[.slice a xs.length cap,.slice a' xs.length cap'] w fun e w'=>e=.returned (.bool true)∧Below w.heap.size w w':=by
 have HG:=iH hg;have HH:=iH hh;have HSM:=iH hsm;clear hg hh hsm;go_enter Tryz.func24,Tryz.ntmps24;go_wp2_with fail;go_loopw [5] (fun i wr=>∃ (k:Nat),k≤xs.length∧i=.int .i64 k∧Below w.heap.size w wr) (fun i _=>xs.length - (intOf i).toNat)
 case atStart=>exact ⟨0,Nat.zero_le _,rfl,Below.refl _ _⟩
 case round =>
  obtain ⟨k,hk,rfl,hbel⟩:=hrel;by_cases hlt:k<xs.length
  ·obtain ⟨x,hx⟩:∃ x,xs[k]?=some x:=⟨xs[k],List.getElem?_eq_getElem hlt⟩
   obtain ⟨b,o,rfl,_,_,hc⟩:=(HG.out.below RwpC.holds hbel nL).at hx;obtain ⟨b',o',rfl,_,_,hc'⟩:=(HH.out.below RwpC.holds hbel nL).at hx;obtain ⟨a2,c2,a9,c9,q0,q1,q2,q3,q4,q5,q6,q7,q8,q9,_,_,n2,n9⟩:=hc;obtain ⟨a2p,c2p,a9p,c9p,r0,r1,r2,r3,r4,r5,r6,r7,r8,r9,_,_,p2,p9⟩:=hc';simp only [Nat.add_zero] at q0 r0;have hwx:=HSM.out x (List.mem_of_getElem? hx);have k0:=cell_regrown q0;have l0:=cell_regrown r0;have k1:=cell_regrown q1;have l1:=cell_regrown r1;have k2:=cell_regrown q2;have l2:=cell_regrown r2;have k3:=cell_regrown q3;have l3:=cell_regrown r3;have k4:=cell_regrown q4;have l4:=cell_regrown r4;have k5:=cell_regrown q5;have l5:=cell_regrown r5;have k6:=cell_regrown q6;have l6:=cell_regrown r6;have k7:=cell_regrown q7;have l7:=cell_regrown r7;have k8:=cell_regrown q8;have l8:=cell_regrown r8;have k9:=cell_regrown q9;have l9:=cell_regrown r9;have cE:∀ d os,Calls Tryz.prog 64 #[.agg #[.string x.berth.name,.string x.berth.zone,.slice a2 x.berth.marks.length c2,.int .i64 x.berth.room,.int .i64 x.berth.hold,.bool x.berth.closed,.int .i64 x.room,.int .i64 x.hold,.int .i64 x.stand,.slice a9 x.counts.length c9],.agg #[.string x.berth.name,.string x.berth.zone,.slice a2p x.berth.marks.length c2p,.int .i64 x.berth.room,.int .i64 x.berth.hold,.bool x.berth.closed,.int .i64 x.room,.int .i64 x.hold,.int .i64 x.stand,.slice a9p x.counts.length c9p]] (Sort.grow (redrawn wr d) os) fun e w''=>e=.returned (.bool true)∧∃ p:Regrown,w''=Sort.grow (redrawn wr p.d) p.os:=fun d os=>Calls.regrown_of (cH x a2 c2 a9 c9 a2p c2p a9p c9p lo lo' _ (n2.below StrC.holds (below_regrown wr d os) nL) (n9.below CntC.holds (below_regrown wr d os) nL) (p2.below StrC.holds (below_regrown wr d os) nL) (p9.below CntC.holds (below_regrown wr d os) nL) hwx)
   have i0:(0:Int)≤(k:Int):=by omega
   have i1:(k:Int)<(xs.length:Int):=by omega
   clear hx q0 r0 q1 r1 q2 r2 q3 r3 q4 r4 q5 r5 q6 r6 q7 r7 q8 r8 q9 r9 n2 n9 p2 p9 hwx;go_wp2_with fail;refine wp_region_quiet_below (by kernel_rfl) (by kernel_rfl) ?_
   repeat (quiet_step (first | exact cE _ _))
   refine wpQuiet_nil ?_;intro _ hw';obtain ⟨⟨dq,osq⟩,hw''⟩:=hw';have hB:=hbel.trans ((below_regrown wr dq osq).mono hbel.size);simp only [] at hw'';rw [← hw''] at hB;clear hw'' cE k0 l0 k1 l1 k2 l2 k3 l3 k4 l4 k5 l5 k6 l6 k7 l7 k8 l8 k9 l9;go_wp2_with fail;go_roundw
   case rel=>exact ⟨k+1,by omega,by go_num,hB⟩
   case measure=>simp [intOf];omega
  ·go_wp2_with fail
   go_ret;exact ⟨rfl,hbel⟩
structure SmI (y:Idx):Prop where
 nr:y.rows.length≤1048576
 rw_:∀ r∈y.rows,SmR r
 zn:wS Wb y.zones≤1048576
 tt:wS Vx y.total≤1048576
theorem Me (y:Idx) (a1:Option Addr) (c1:Nat) (a2:Option Addr) (c2:Nat) (a3:Option Addr) (c3:Nat) (a1p:Option Addr) (c1p:Nat) (a2p:Option Addr) (c2p:Nat) (a3p:Option Addr) (c3p:Nat) (lo lo':Nat) (w:World) (n1:SliceC RwpC 10 lo w a1 y.rows) (n2:SliceC ZnrC 2 lo w a2 y.zones) (n3:SliceC CntC 4 lo w a3 y.total) (p1:SliceC RwpC 10 lo' w a1p y.rows) (p2:SliceC ZnrC 2 lo' w a2p y.zones) (p3:SliceC CntC 4 lo' w a3p y.total) (hsm:SmI y) :
  Calls Tryz.prog 8 #[.agg #[.bool y.pack,.slice a1 y.rows.length c1,.slice a2 y.zones.length c2,.slice a3 y.total.length c3],.agg #[.bool y.pack,.slice a1p y.rows.length c1p,.slice a2p y.zones.length c2p,.slice a3p y.total.length c3p]] w fun e w'=>e=.returned (.bool true)∧Below w.heap.size w w':=by
 have N1:=iH n1;have P1:=iH p1;have N2:=iH n2;have P2:=iH p2;have N3:=iH n3;have P3:=iH p3;obtain ⟨hnr,hrw,M2,M3⟩:=hsm;have HRW:=iH hrw;clear n1 p1 n2 p2 n3 p3 hrw;go_enter Tryz.func8,Tryz.ntmps8;go_wp2_with fail;refine (Xc y.rows a1 a1p c1 c1p lo lo' _ (N1.out.below RwpC.holds (B:=w.heap.size) (by go_grown) nL) (P1.out.below RwpC.holds (B:=w.heap.size) (by go_grown) nL) hnr HRW.out).mono ?_;rintro e w1 ⟨rfl,hb1⟩;have hB1:Below w.heap.size w w1:=(show Below w.heap.size w _ by go_grown).trans (hb1.mono (by simp;omega));have k1_2:w1.cell? ⟨w.heap.size,2,none⟩=some (.slice a2 y.zones.length c2):=(hb1.cell (p:=⟨w.heap.size,2,none⟩) (by simp;omega)).trans (by simp);have l1_2:w1.cell? ⟨w.heap.size+1,2,none⟩=some (.slice a2p y.zones.length c2p):=(hb1.cell (p:=⟨w.heap.size+1,2,none⟩) (by simp)).trans (by simp);have k1_3:w1.cell? ⟨w.heap.size,3,none⟩=some (.slice a3 y.total.length c3):=(hb1.cell (p:=⟨w.heap.size,3,none⟩) (by simp;omega)).trans (by simp);have l1_3:w1.cell? ⟨w.heap.size+1,3,none⟩=some (.slice a3p y.total.length c3p):=(hb1.cell (p:=⟨w.heap.size+1,3,none⟩) (by simp)).trans (by simp);have hs1:w.heap.size+1<w1.heap.size:=by have:=hb1.size;simp at this;omega
 clear hb1;go_wp2_with fail;refine (Ya y.zones a2 a2p c2 c2p lo lo' _ (N2.out.below ZnrC.holds (B:=w.heap.size) hB1 nL) (P2.out.below ZnrC.holds (B:=w.heap.size) hB1 nL) M2).mono ?_;rintro e w2 ⟨rfl,hb2⟩;have hB2:Below w.heap.size w w2:=hB1.trans (hb2.mono (by omega));have k2_3:w2.cell? ⟨w.heap.size,3,none⟩=some (.slice a3 y.total.length c3):=(hb2.cell (p:=⟨w.heap.size,3,none⟩) (show w.heap.size<w1.heap.size by omega)).trans k1_3;have l2_3:w2.cell? ⟨w.heap.size+1,3,none⟩=some (.slice a3p y.total.length c3p):=(hb2.cell (p:=⟨w.heap.size+1,3,none⟩) hs1).trans l1_3;have hs2:w.heap.size+1<w2.heap.size:=by have:=hb2.size;omega
 clear hb2 hB1 hs1 k1_2 l1_2 k1_3 l1_3;go_wp2_with fail;refine (Kj y.total a3 a3p c3 c3p lo lo' _ (N3.out.below CntC.holds (B:=w.heap.size) hB2 nL) (P3.out.below CntC.holds (B:=w.heap.size) hB2 nL) M3).mono ?_;rintro e w3 ⟨rfl,hb3⟩;have hB3:Below w.heap.size w w3:=hB2.trans (hb3.mono (by omega));clear hb3 hB2 hs2 k2_3 l2_3;go_wp2_with fail;go_ret;exact ⟨rfl,hB3⟩
theorem Yi {base n s:Nat} {w:World} {e:TypeId} {cs:List Value} {v:Value} (h:w.ownsRow base e s v n cs):∃ (a:Option Addr) (c:Nat),v=.slice a n c:=by
 rcases h.2 with ⟨hv,hn⟩ | ⟨g,cap,_,hv,_⟩
 ·exact ⟨none,0,by rw [hv,hn]⟩
 ·exact ⟨_,cap,hv⟩
theorem OwnRw.slice {base:Nat} {w:World} {a:Option Addr} {q:Nat} {l:List Rwp} (h:OwnRw base w (.slice a l.length q) l) (hz:∀ r∈l,(r.berth.name.size≤maxLen∧r.berth.zone.size≤maxLen)∧(r.berth.marks.length≤1048576∧Lb r.berth.marks maxLen)∧r.counts.length≤1048576∧Rt r.counts 1048576) (hm:l.length≤maxLen):SliceC RwpC 10 base w a l:=by
 obtain ⟨cs,S,tag,h1,h2⟩:=h;rcases h1.2 with ⟨hv,_⟩ | ⟨g,cap,cur,hv,hb,hg,_⟩
 ·have:l.length=0:=by injection hv
  rw [List.length_eq_zero_iff.1 this];exact SliceC.nil
 ·have ea:a=some ⟨g,0,none⟩:=by injection hv
  subst ea;refine ⟨hm,.inr ⟨g,0,rfl,⟨hb,fun _ p=>h1.frozenAt p⟩,(Array.getElem?_eq_some_iff.1 hg).1,fun j r hj=>?_⟩⟩;have hlt:=Ad hj;obtain ⟨hl,q1,q2⟩:=h2 j r hj;obtain ⟨hz1,hz2,hz3⟩:=hz r (List.mem_of_getElem? hj);obtain ⟨s,t,hS⟩:∃ s t,S j=[s,t]:=by
   match hh:S j,hl with
   | [s,t],_=>exact ⟨s,t,rfl⟩
  rw [hS] at q1 q2;have k1:w.ownsRow base 9 1 s r.berth.marks.length (Bg r.berth.marks):=(q2 0 s _ rfl rfl).1;have k2:w.ownsRow base 125 4 t r.counts.length (Am r.counts):=(q2 1 t _ rfl rfl).1;obtain ⟨a2,c2,rfl⟩:=Yi k1;obtain ⟨a9,c9,rfl⟩:=Yi k2;have cc:∀ i u,(vRw r [.slice a2 r.berth.marks.length c2,.slice a9 r.counts.length c9])[i]?=some u→w.cell? ⟨g,0+j*10+i,none⟩=some u:=fun i u hu=>by
   have hi:i<10:=by have:=Ad hu;rwa [Nl r _ rfl] at this
   have:=h1.cellAt (j*10+i) (by omega);rw [q1 i u hu] at this;simpa using this
  exact ⟨a2,c2,a9,c9,cc 0 _ rfl,cc 1 _ rfl,cc 2 _ rfl,cc 3 _ rfl,cc 4 _ rfl,cc 5 _ rfl,cc 6 _ rfl,cc 7 _ rfl,cc 8 _ rfl,cc 9 _ rfl,hz1.1,hz1.2,Wm k1 hz2.1 hz2.2,Iz k2 hz3.1 hz3.2⟩
theorem OwnZn.slice {base:Nat} {w:World} {a:Option Addr} {q:Nat} {l:List Znr} (h:OwnZn base w (.slice a l.length q) l) (hz:∀ r∈l,r.name.size≤maxLen∧r.counts.length≤1048576∧Rt r.counts 1048576) (hm:l.length≤maxLen):SliceC ZnrC 2 base w a l:=by
 obtain ⟨cs,S,tag,h1,h2⟩:=h;rcases h1.2 with ⟨hv,_⟩ | ⟨g,cap,cur,hv,hb,hg,_⟩
 ·have:l.length=0:=by injection hv
  rw [List.length_eq_zero_iff.1 this];exact SliceC.nil
 ·have ea:a=some ⟨g,0,none⟩:=by injection hv
  subst ea;refine ⟨hm,.inr ⟨g,0,rfl,⟨hb,fun _ p=>h1.frozenAt p⟩,(Array.getElem?_eq_some_iff.1 hg).1,fun j r hj=>?_⟩⟩;have hlt:=Ad hj;obtain ⟨hl,q1,q2⟩:=h2 j r hj;obtain ⟨hz1,hz3⟩:=hz r (List.mem_of_getElem? hj);obtain ⟨t,hS⟩:∃ t,S j=[t]:=by
   match hh:S j,hl with
   | [t],_=>exact ⟨t,rfl⟩
  rw [hS] at q1 q2;have k2:w.ownsRow base 125 4 t r.counts.length (Am r.counts):=(q2 0 t _ rfl rfl).1;obtain ⟨a9,c9,rfl⟩:=Yi k2;have cc:∀ i u,(vZn r [.slice a9 r.counts.length c9])[i]?=some u→w.cell? ⟨g,0+j*2+i,none⟩=some u:=fun i u hu=>by
   have hi:i<2:=by have:=Ad hu;rwa [Zk r _ rfl] at this
   have:=h1.cellAt (j*2+i) (by omega);rw [q1 i u hu] at this;simpa using this
  exact ⟨a9,c9,cc 0 _ rfl,cc 1 _ rfl,hz1,Iz k2 hz3.1 hz3.2⟩
theorem VOk.of {x:Flt} (h:Ce x=true) (hw:Di x≤1048576):VOk x:=by
 obtain ⟨m1,m2,m3,m4⟩:=Wx h;obtain ⟨p1,p2,_,_,_,p6⟩:=Uu h;have hv:=h;unfold Ce at h;simp only [Bool.and_eq_true,Cq,Dt,Bq,Bo,Nu,decide_eq_true_eq] at h;obtain ⟨⟨⟨_,_⟩,_⟩,⟨⟨_,h11⟩,_⟩,h2,_,h3,_⟩:=h;have ns:∀ s∈x.services,P.nameOk s.name=true:=fun s hs=>by
  obtain ⟨j,hj⟩:=List.getElem?_of_mem hs;exact ((Nm _ _).1 h11 j s hj).1
 have pos:∀ {s:ByteArray},P.nameOk s=true→0<s.size:=fun {s} hn=>by
  rcases Nat.eq_zero_or_pos s.size with e | e
  ·exact absurd (Jo.1 e) (Ta hn)
  ·exact e
 refine ⟨m1,p2,m2,fun k b hb=>?_,fun k c hc=>?_,fun k c hc=>?_,fun k c hc=>?_⟩
 ·obtain ⟨q1,q2,q3,_⟩:=m3 k b hb
  have h4:=h2 k b hb;simp only [Fc,Bool.and_eq_true,inR,decide_eq_true_eq] at h4;have w1:Bw b≤wS Bw x.berths:=Fo (List.mem_of_getElem? hb);have w2:wS ByteArray.size b.marks≤1048576:=by
   have w3:wS ByteArray.size b.marks≤Bw b:=by unfold Bw;omega
   unfold Di at hw;omega
  exact ⟨⟨pos q1,Np q1⟩,Np q2,q3,h4.1.2,Nat.le_trans Df w2,w2⟩
 ·have h4:=h3 k c hc
  simp only [Fn,Bs,Bool.and_eq_true,Bool.or_eq_true,inR,decide_eq_true_eq] at h4;exact ⟨(m4 k c hc).1,h4.2.1.1.1.1.1.2⟩
 ·have h4:=h3 k c hc
  simp only [Fn,Bs,Bool.and_eq_true,Bool.or_eq_true,inR,decide_eq_true_eq] at h4;refine ⟨?_,?_,h4.2.1.1.2⟩
  ·obtain ⟨s,hs⟩:=p6 k c hc
   obtain ⟨_,h6⟩:=Dz hs;obtain ⟨y,h7,h8⟩:=Ln h6;rw [← h8];exact Np (ns y (List.mem_of_getElem? h7))
  ·rcases (m4 k c hc).2.2 with e | ⟨s,hs⟩
   ·rw [e];decide
   ·obtain ⟨_,h6⟩:=Dz hs
    obtain ⟨y,h7,h8⟩:=Ln h6;rw [← h8];exact Np (m3 s y h7).1
 ·rcases (m4 k c hc).2.2 with e | ⟨s,hs⟩
  ·exact .inl e
  ·obtain ⟨_,h6⟩:=Dz hs
   obtain ⟨y,h7,h8⟩:=Ln h6;exact .inr ⟨s,y,h7,h8⟩
end Go.Proofs.YtpeajnkkdioflaaGreat
