import Derived.Test.YtjoeojhdkoidbaaGreatJ38
set_option maxHeartbeats 4000000
set_option maxRecDepth 100000
namespace Go.Proofs.YtjoeojhdkoidbaaGreat
open Go.RowKit Go.WideMaps Go.Maps Tryz
def FoundZ (p m1 m2 m3 m4:Nat) (x:Flt) (a1:OA) (c1:Nat) (a2:OA) (c2:Nat) (a3:OA) (c3:Nat) (w:World):Prop:=Found p m1 m2 m3 m4 x a1 c1 a2 c2 a3 c3 w∧∀ j,w.frozen? ⟨p,j,none⟩=false
theorem FoundZ.below {p m1 m2 m3 m4:Nat} {x:Flt} {a1:OA} {c1:Nat} {a2:OA} {c2:Nat} {a3:OA} {c3:Nat} {w w':World} (h:FoundZ p m1 m2 m3 m4 x a1 c1 a2 c2 a3 c3 w) (hb:Below w.heap.size w w'):FoundZ p m1 m2 m3 m4 x a1 c1 a2 c2 a3 c3 w':=⟨h.1.below hb,fun j=>(hb.frozen (p:=⟨p,j,none⟩) h.1.2.1).trans (h.2 j)⟩
theorem Tu (x:Flt) (a1:OA) (c1:Nat) (a2:OA) (c2:Nat) (a3:OA) (c3:Nat) (lo:Nat) (w:World) (n1:SliceC BrtC 6 lo w a1 x.berths) (n2:SliceC SvcC 2 lo w a2 x.services) (n3:SliceC CpyC 12 lo w a3 x.copies)
  (l1:x.berths.length≤1048576) (l2:x.services.length≤1048576) (l3:x.copies.length≤1048576) :
  Calls prog 64 #[.agg (ffA x a1 c1 a2 c2 a3 c3)] w fun e w'=>∃ v,e=.returned (.tuple #[v,.bool (Cf x)])∧Below w.heap.size w w' ∧
   (Cf x=true→∃ p m1 m2 m3 m4,v=.pointer (some ⟨p,0,none⟩)∧w.heap.size≤p∧w.heap.size≤m4∧FoundZ p m1 m2 m3 m4 x a1 c1 a2 c2 a3 c3 w'):=by
 have N1:=iH n1;have N2:=iH n2;have N3:=iH n3;have HV:Hid (Cf x=(Dt x && (Fb x && (Ch x.berths && (Fe x.services && (Bw x && Df x.berths x.copies)))))):=rfl;clear n1 n2 n3;generalize Cf x=V at *;go_enter func64,ntmps64;go_wp2_with fail;refine (kY x a1 c1 a2 c2 a3 c3 lo _ (N1.out.below BrtC.holds (B:=w.heap.size) (by go_grown) nL) (N2.out.below SvcC.holds (B:=w.heap.size) (by go_grown) nL) (N3.out.below CpyC.holds (B:=w.heap.size) (by go_grown) nL) l1 l2 l3).mono ?_;rintro e w1 ⟨p,m1,m2,m3,m4,rfl,hp,hrg,ho1,ho2,ho3,hg4,hm4,hb1,hfz⟩;have HB1:Hid (Below w.heap.size w w1):=(show Below w.heap.size w _ by go_grown).trans (hb1.mono (by simp));have HP:Hid (w.heap.size≤p):=lT (show w.heap.size≤_ by simp) hp;have HG4:Hid (w.heap.size≤m4):=lT (show w.heap.size≤_ by simp) hg4;have HF1:Hid (FoundZ p m1 m2 m3 m4 x a1 c1 a2 c2 a3 c3 w1):=⟨⟨hrg,block_lt_of_cell (hrg 1 _ rfl),ho1,ho2,ho3,hm4⟩,hfz⟩;clear hrg ho1 ho2 ho3 hb1 hp hg4 hm4 hfz;go_wp2_with fail;refine (gD _).mono ?_;rintro e w2 ⟨g,rfl,hg,hgl,hb2⟩;have HB2:=qTH HB1 hb2;have HF2:Hid (FoundZ p m1 m2 m3 m4 x a1 c1 a2 c2 a3 c3 w2):=HF1.out.below hb2;have HG2:=iH hg;have HGL:=iH hgl;clear hg hgl hb2 HB1 HF1;go_wp2_with fail;go_loopw [11] (fun i wr=>∃ k:Nat,k≤6∧i=.int .i64 k∧Hid ((0<k→(Dt x)=true)∧(1<k→(Fb x)=true)∧(2<k→(Ch x.berths)=true)∧(3<k→(Fe x.services)=true)∧(4<k→(Bw x)=true)∧(5<k→(Df x.berths x.copies)=true))∧Hid (FoundZ p m1 m2 m3 m4 x a1 c1 a2 c2 a3 c3 wr)∧Hid (wr.rangeAt g 0 [.func (.func 130) #[] #[],.func (.func 131) #[] #[],.func (.func 132) #[] #[],.func (.func 133) #[] #[],.func (.func 134) #[] #[],.func (.func 135) #[] #[]])∧Hid (g<wr.heap.size)∧Hid (Below w.heap.size w wr)) (fun i _=>6 - (intOf i).toNat)
 case atStart=>exact ⟨0,by omega,rfl,⟨fun h=>absurd h (by omega),fun h=>absurd h (by omega),fun h=>absurd h (by omega),fun h=>absurd h (by omega),fun h=>absurd h (by omega),fun h=>absurd h (by omega)⟩,HF2,HG2,HGL,HB2⟩
 case round =>
  clear HF2 HG2 HGL HB2;obtain ⟨k,hk,rfl,he,hF,hG,hgl,hb⟩:=hrel;have hk':k=0∨k=1∨k=2∨k=3∨k=4∨k=5∨k=6:=by omega
  rcases hk' with rfl | rfl | rfl | rfl | rfl | rfl | rfl
  ·have c0:wr.cell? ⟨g,0,none⟩=some (.func (.func 130) #[] #[]):=hG.out 0 _ rfl
   go_wp2_with fail;refine (qQ p x a1 c1 a2 c2 a3 c3 _ hF.out.1.ins).mono ?_;rintro e w3 ⟨rfl,hb3⟩;have HF3:Hid (FoundZ p m1 m2 m3 m4 x a1 c1 a2 c2 a3 c3 w3):=hF.out.below hb3;have HG3:=iH (Ab hG.out hb3 hgl.out);have HL3:Hid (g<w3.heap.size):=lL hgl.out hb3.size;have HB3:=qTH hb hb3;clear hb3 hF hG hgl hb c0
   cases hh:Dt x with
   | false =>
    have HC:Hid (V=false):=by show _=_;rw [HV.out,hh];rfl
    clear hh he HV;go_wp2_with fail
    go_ret2
    exact ⟨.pointer none,by rw [HC.out];rfl,HB3,fun h=>absurd (HC.out.symm.trans h) (by decide)⟩
   | true =>
    have HE:Hid ((0<0+1→(Dt x)=true)∧(1<0+1→(Fb x)=true)∧(2<0+1→(Ch x.berths)=true)∧(3<0+1→(Fe x.services)=true)∧(4<0+1→(Bw x)=true)∧(5<0+1→(Df x.berths x.copies)=true)):=⟨fun _=>hh,fun h=>absurd h (by omega),fun h=>absurd h (by omega),fun h=>absurd h (by omega),fun h=>absurd h (by omega),fun h=>absurd h (by omega)⟩;clear hh he;go_wp2_with fail;go_roundw
    case rel=>exact ⟨0+1,by omega,by go_num,HE,HF3,HG3,HL3,HB3⟩
    case measure=>simp [intOf]
  ·have c0:wr.cell? ⟨g,1,none⟩=some (.func (.func 131) #[] #[]):=hG.out 1 _ rfl
   go_wp2_with fail;refine (sE p x a1 c1 a2 c2 a3 c3 lo _ hF.out.1.ins (N1.out.below BrtC.holds hb.out nL) (N2.out.below SvcC.holds hb.out nL) (N3.out.below CpyC.holds hb.out nL) l1 l2 l3).mono ?_;rintro e w3 ⟨rfl,hb3⟩;have HF3:Hid (FoundZ p m1 m2 m3 m4 x a1 c1 a2 c2 a3 c3 w3):=hF.out.below hb3;have HG3:=iH (Ab hG.out hb3 hgl.out);have HL3:Hid (g<w3.heap.size):=lL hgl.out hb3.size;have HB3:=qTH hb hb3;clear hb3 hF hG hgl hb c0
   cases hh:Fb x with
   | false =>
    have HC:Hid (V=false):=by show _=_;rw [HV.out,he.out.1 (by omega),Bool.true_and,hh];rfl
    clear hh he HV;go_wp2_with fail
    go_ret2
    exact ⟨.pointer none,by rw [HC.out];rfl,HB3,fun h=>absurd (HC.out.symm.trans h) (by decide)⟩
   | true =>
    have HE:Hid ((0<1+1→(Dt x)=true)∧(1<1+1→(Fb x)=true)∧(2<1+1→(Ch x.berths)=true)∧(3<1+1→(Fe x.services)=true)∧(4<1+1→(Bw x)=true)∧(5<1+1→(Df x.berths x.copies)=true)):=⟨fun _=>he.out.1 (by omega),fun _=>hh,fun h=>absurd h (by omega),fun h=>absurd h (by omega),fun h=>absurd h (by omega),fun h=>absurd h (by omega)⟩;clear hh he;go_wp2_with fail;go_roundw
    case rel=>exact ⟨1+1,by omega,by go_num,HE,HF3,HG3,HL3,HB3⟩
    case measure=>simp [intOf]
  ·have c0:wr.cell? ⟨g,2,none⟩=some (.func (.func 132) #[] #[]):=hG.out 2 _ rfl
   go_wp2_with fail;refine (eB p x.berths a1 c1 lo _ hF.out.1.ins.1 (N1.out.below BrtC.holds hb.out nL)).mono ?_;rintro e w3 ⟨rfl,hb3⟩;have HF3:Hid (FoundZ p m1 m2 m3 m4 x a1 c1 a2 c2 a3 c3 w3):=hF.out.below hb3;have HG3:=iH (Ab hG.out hb3 hgl.out);have HL3:Hid (g<w3.heap.size):=lL hgl.out hb3.size;have HB3:=qTH hb hb3;clear hb3 hF hG hgl hb c0
   cases hh:Ch x.berths with
   | false =>
    have HC:Hid (V=false):=by show _=_;rw [HV.out,he.out.1 (by omega),Bool.true_and,he.out.2.1 (by omega),Bool.true_and,hh];rfl
    clear hh he HV;go_wp2_with fail
    go_ret2
    exact ⟨.pointer none,by rw [HC.out];rfl,HB3,fun h=>absurd (HC.out.symm.trans h) (by decide)⟩
   | true =>
    have HE:Hid ((0<2+1→(Dt x)=true)∧(1<2+1→(Fb x)=true)∧(2<2+1→(Ch x.berths)=true)∧(3<2+1→(Fe x.services)=true)∧(4<2+1→(Bw x)=true)∧(5<2+1→(Df x.berths x.copies)=true)):=⟨fun _=>he.out.1 (by omega),fun _=>he.out.2.1 (by omega),fun _=>hh,fun h=>absurd h (by omega),fun h=>absurd h (by omega),fun h=>absurd h (by omega)⟩;clear hh he;go_wp2_with fail;go_roundw
    case rel=>exact ⟨2+1,by omega,by go_num,HE,HF3,HG3,HL3,HB3⟩
    case measure=>simp [intOf]
  ·have c0:wr.cell? ⟨g,3,none⟩=some (.func (.func 133) #[] #[]):=hG.out 3 _ rfl
   go_wp2_with fail;refine (oP p x.services a2 c2 lo _ hF.out.1.ins.2.1 (N2.out.below SvcC.holds hb.out nL)).mono ?_;rintro e w3 ⟨rfl,hb3⟩;have HF3:Hid (FoundZ p m1 m2 m3 m4 x a1 c1 a2 c2 a3 c3 w3):=hF.out.below hb3;have HG3:=iH (Ab hG.out hb3 hgl.out);have HL3:Hid (g<w3.heap.size):=lL hgl.out hb3.size;have HB3:=qTH hb hb3;clear hb3 hF hG hgl hb c0
   cases hh:Fe x.services with
   | false =>
    have HC:Hid (V=false):=by show _=_;rw [HV.out,he.out.1 (by omega),Bool.true_and,he.out.2.1 (by omega),Bool.true_and,he.out.2.2.1 (by omega),Bool.true_and,hh];rfl
    clear hh he HV;go_wp2_with fail
    go_ret2
    exact ⟨.pointer none,by rw [HC.out];rfl,HB3,fun h=>absurd (HC.out.symm.trans h) (by decide)⟩
   | true =>
    have HE:Hid ((0<3+1→(Dt x)=true)∧(1<3+1→(Fb x)=true)∧(2<3+1→(Ch x.berths)=true)∧(3<3+1→(Fe x.services)=true)∧(4<3+1→(Bw x)=true)∧(5<3+1→(Df x.berths x.copies)=true)):=⟨fun _=>he.out.1 (by omega),fun _=>he.out.2.1 (by omega),fun _=>he.out.2.2.1 (by omega),fun _=>hh,fun h=>absurd h (by omega),fun h=>absurd h (by omega)⟩;clear hh he;go_wp2_with fail;go_roundw
    case rel=>exact ⟨3+1,by omega,by go_num,HE,HF3,HG3,HL3,HB3⟩
    case measure=>simp [intOf]
  ·have c0:wr.cell? ⟨g,4,none⟩=some (.func (.func 134) #[] #[]):=hG.out 4 _ rfl
   go_wp2_with fail;refine (gM p x a3 c3 m1 m2 lo _ hF.out.1.ins.2.2 (hF.out.1.1 4 _ rfl) (hF.out.1.1 5 _ rfl) hF.out.1.2.2.1 hF.out.1.2.2.2.1 (N3.out.below CpyC.holds hb.out nL) l3).mono ?_;rintro e w3 ⟨rfl,hb3⟩;have HF3:Hid (FoundZ p m1 m2 m3 m4 x a1 c1 a2 c2 a3 c3 w3):=hF.out.below hb3;have HG3:=iH (Ab hG.out hb3 hgl.out);have HL3:Hid (g<w3.heap.size):=lL hgl.out hb3.size;have HB3:=qTH hb hb3;clear hb3 hF hG hgl hb c0
   cases hh:Bw x with
   | false =>
    have HC:Hid (V=false):=by show _=_;rw [HV.out,he.out.1 (by omega),Bool.true_and,he.out.2.1 (by omega),Bool.true_and,he.out.2.2.1 (by omega),Bool.true_and,he.out.2.2.2.1 (by omega),Bool.true_and,hh];rfl
    clear hh he HV;go_wp2_with fail
    go_ret2
    exact ⟨.pointer none,by rw [HC.out];rfl,HB3,fun h=>absurd (HC.out.symm.trans h) (by decide)⟩
   | true =>
    have HE:Hid ((0<4+1→(Dt x)=true)∧(1<4+1→(Fb x)=true)∧(2<4+1→(Ch x.berths)=true)∧(3<4+1→(Fe x.services)=true)∧(4<4+1→(Bw x)=true)∧(5<4+1→(Df x.berths x.copies)=true)):=⟨fun _=>he.out.1 (by omega),fun _=>he.out.2.1 (by omega),fun _=>he.out.2.2.1 (by omega),fun _=>he.out.2.2.2.1 (by omega),fun _=>hh,fun h=>absurd h (by omega)⟩;clear hh he;go_wp2_with fail;go_roundw
    case rel=>exact ⟨4+1,by omega,by go_num,HE,HF3,HG3,HL3,HB3⟩
    case measure=>simp [intOf]
  ·have c0:wr.cell? ⟨g,5,none⟩=some (.func (.func 135) #[] #[]):=hG.out 5 _ rfl
   go_wp2_with fail;refine (lY p x a1 c1 a2 c2 a3 c3 lo _ hF.out.1.ins (N1.out.below BrtC.holds hb.out nL) (N3.out.below CpyC.holds hb.out nL) l1 l3).mono ?_;rintro e w3 ⟨rfl,hb3⟩;have HF3:Hid (FoundZ p m1 m2 m3 m4 x a1 c1 a2 c2 a3 c3 w3):=hF.out.below hb3;have HG3:=iH (Ab hG.out hb3 hgl.out);have HL3:Hid (g<w3.heap.size):=lL hgl.out hb3.size;have HB3:=qTH hb hb3;clear hb3 hF hG hgl hb c0
   cases hh:Df x.berths x.copies with
   | false =>
    have HC:Hid (V=false):=by show _=_;rw [HV.out,he.out.1 (by omega),Bool.true_and,he.out.2.1 (by omega),Bool.true_and,he.out.2.2.1 (by omega),Bool.true_and,he.out.2.2.2.1 (by omega),Bool.true_and,he.out.2.2.2.2.1 (by omega),Bool.true_and,hh];skip
    clear hh he HV;go_wp2_with fail
    go_ret2
    exact ⟨.pointer none,by rw [HC.out];rfl,HB3,fun h=>absurd (HC.out.symm.trans h) (by decide)⟩
   | true =>
    have HE:Hid ((0<5+1→(Dt x)=true)∧(1<5+1→(Fb x)=true)∧(2<5+1→(Ch x.berths)=true)∧(3<5+1→(Fe x.services)=true)∧(4<5+1→(Bw x)=true)∧(5<5+1→(Df x.berths x.copies)=true)):=⟨fun _=>he.out.1 (by omega),fun _=>he.out.2.1 (by omega),fun _=>he.out.2.2.1 (by omega),fun _=>he.out.2.2.2.1 (by omega),fun _=>he.out.2.2.2.2.1 (by omega),fun _=>hh⟩;clear hh he;go_wp2_with fail;go_roundw
    case rel=>exact ⟨5+1,by omega,by go_num,HE,HF3,HG3,HL3,HB3⟩
    case measure=>simp [intOf]
  ·have HC:Hid (V=true):=by show _=_;rw [HV.out,he.out.1 (by omega),he.out.2.1 (by omega),he.out.2.2.1 (by omega),he.out.2.2.2.1 (by omega),he.out.2.2.2.2.1 (by omega),he.out.2.2.2.2.2 (by omega)];rfl
   clear he HV;go_wp2_with fail
   go_ret2
   exact ⟨.pointer (some ⟨p,0,none⟩),by rw [HC.out];rfl,hb.out,fun _=>⟨p,m1,m2,m3,m4,rfl,HP,HG4,hF.out⟩⟩
theorem FoundZ.cells {p m1 m2 m3 m4:Nat} {x:Flt} {a1:OA} {c1:Nat} {a2:OA} {c2:Nat} {a3:OA} {c3:Nat} {w:World} (h:FoundZ p m1 m2 m3 m4 x a1 c1 a2 c2 a3 c3 w) {g:Nat} {cs:Array Value} {t:TypeId} (hz:Blk g cs t w) (hp:p≠g) (o:Nat) (vs:List Value):FoundZ p m1 m2 m3 m4 x a1 c1 a2 c2 a3 c3 (w.setCells g o vs):=⟨h.1.cells hz hp o vs,fun j=>(World.frozen?_setCells g vs o w _).trans (h.2 j)⟩
def oC (x:Flt) (a1:OA) (c1:Nat) (a2:OA) (c2:Nat) (a3:OA) (c3:Nat) (lo:Nat) (cn bn:BA) (W:World) (e:Ending) (w:World):Prop :=
 (e=.returned (.tuple #[.agg Bm,.bool false])∧Ig x cn bn=none) ∨
 (∃ p m1 m2 m3 m4 ci bi y b a7 c7 am cm,e=.returned (.tuple #[.agg (Aq p ci bi y a7 c7 b am cm (Ar x.copies b.name ci x.copies.length).1 (Ar x.copies b.name ci x.copies.length).2.1 (Ar x.copies b.name ci x.copies.length).2.2),.bool true])∧Cf x=true∧x.copies[ci]?=some y∧x.berths[bi]?=some b∧Ig x cn bn=some (ci,bi)∧FoundZ p m1 m2 m3 m4 x a1 c1 a2 c2 a3 c3 w∧W.heap.size≤p∧W.heap.size≤m4∧SliceC LikC 2 lo W a7 y.likes∧SliceC StrC 1 lo W am b.marks)
theorem aG (x:Flt) (a1:OA) (c1:Nat) (a2:OA) (c2:Nat) (a3:OA) (c3:Nat) (lo:Nat) (cn bn:BA) (w:World) (n1:SliceC BrtC 6 lo w a1 x.berths) (n2:SliceC SvcC 2 lo w a2 x.services) (n3:SliceC CpyC 12 lo w a3 x.copies)
  (l1:x.berths.length≤1048576) (l2:x.services.length≤1048576) (l3:x.copies.length≤1048576) (hcn:cn.size≤maxLen) (hbn:bn.size≤maxLen) :
  Calls prog 29 #[.agg (ffA x a1 c1 a2 c2 a3 c3),.string cn,.string bn] w fun e w'=>oC x a1 c1 a2 c2 a3 c3 lo cn bn w e w'∧Below w.heap.size w w':=by
 have N1:=iH n1;have N2:=iH n2;have N3:=iH n3;have hkc:keyOf prog 9 (.string cn)=some (kOf cn):=keyOf_string_mk underlying9 hcn;have hkb:keyOf prog 9 (.string bn)=some (kOf bn):=keyOf_string_mk underlying9 hbn;clear n1 n2 n3 hcn hbn;go_enter func29,ntmps29;go_wp2_with fail;have e2:Blk (w.heap.size+1) Bm 69 ((w.alloc (Obj.cells (ffA x a1 c1 a2 c2 a3 c3) 36)).alloc (Obj.cells Bm 69)):=by
  have h:=Blk.alloc (w.alloc (Obj.cells (ffA x a1 c1 a2 c2 a3 c3) 36)) Bm 69;simpa using h
 have e3:Below w.heap.size w ((w.alloc (Obj.cells (ffA x a1 c1 a2 c2 a3 c3) 36)).alloc (Obj.cells Bm 69)):=((Below.refl _ w).alloc nL _).alloc (by simp) _;have HZ0:=iH e2;have HB0:=iH e3;clear e2 e3;generalize (w.alloc (Obj.cells (ffA x a1 c1 a2 c2 a3 c3) 36)).alloc (Obj.cells Bm 69)=w0 at *;refine (Tu x a1 c1 a2 c2 a3 c3 lo _ (N1.out.below BrtC.holds HB0 nL) (N2.out.below SvcC.holds HB0 nL) (N3.out.below CpyC.holds HB0 nL) l1 l2 l3).mono ?_;rintro e w1 ⟨v,rfl,hb1,hfd⟩;have HB1:=qTH HB0 hb1;have HZ1:=qBk HZ0 hb1;have HS0:Hid (w.heap.size≤w0.heap.size):=HB0.out.size;have HS2:Hid (w.heap.size+1<w0.heap.size):=HZ0.out.lt;clear hb1 HB0 HZ0;have HT:=iH HZ1.out.there;have HR10:=iH (World.rangeAt_setCells_same w1 (w.heap.size+1) 0 Bm.toList HZ1.out.there);have HB10:Hid (Below w.heap.size w (w1.setCells (w.heap.size+1) 0 Bm.toList)):=Ad (by omega) _ _ _ HB1;obtain ⟨w10,HW10⟩:∃ w10,Hid (w10=w1.setCells (w.heap.size+1) 0 Bm.toList):=⟨_,rfl⟩;rw [← HW10.out] at HR10 HB10
 cases hv:Cf x with
 | false =>
  have HS:=iH (aS (cn:=cn) (bn:=bn) hv);clear hfd hv;go_wp2_with (first | (refine Ag rfl 69 _ _ rfl (w.heap.size+1) 0 Bm rfl rfl HT Cz (by simp [Value.oneCell']) w10 HW10 ?_));exact bodyPost_ret (Bi rfl _ _ (w.heap.size+1) Bm.toList _ rfl HR10 underlying69 rfl Cz) rfl ⟨Or.inl ⟨rfl,HS⟩,HB10⟩
 | true =>
  obtain ⟨p,m1,m2,m3,m4,rfl,hp,hm4,hF⟩:=hfd hv;have HF:=iH hF;have HV:=iH hv;have HP:Hid (w.heap.size≤p):=lT HS0 hp;have HP2:Hid (w.heap.size+1<p):=lL HS2 hp;have HM4:Hid (w.heap.size≤m4):=lT HS0 hm4;have O3:=iH HF.out.1.2.2.2.2.1;have O1:=iH HF.out.1.2.2.1;have p4:w1.cell? ⟨p,4,none⟩=some (.map (some m1)):=HF.out.1.1 4 _ rfl;have p6:w1.cell? ⟨p,6,none⟩=some (.map (some m3)):=HF.out.1.1 6 _ rfl;have HC1:Hid (has (Ak (cpN x) x.copies.length) (kOf cn)=(An (cpN x) cn x.copies.length).isSome):=Fq _ _ _;have HC2:Hid ((Ak (cpN x) x.copies.length).atKey (kOf cn) (.lit (.int .i64 0))=.lit (.int .i64 (((An (cpN x) cn x.copies.length).getD 0:Nat):Int))):=Gs _ _ _;have HD1:Hid (has (Ak (brN x) x.berths.length) (kOf bn)=(An (brN x) bn x.berths.length).isSome):=Fq _ _ _;have HD2:Hid ((Ak (brN x) x.berths.length).atKey (kOf bn) (.lit (.int .i64 0))=.lit (.int .i64 (((An (brN x) bn x.berths.length).getD 0:Nat):Int))):=Gs _ _ _;obtain ⟨_,_,_,hcN,_,_⟩:=Cg HV;obtain ⟨_,hbN,_,_⟩:=Br HV;clear hF hfd hv hp hm4;have hc1:=HC1.out;have hc2:=HC2.out;have hb1:=HD1.out;have hb2:=HD2.out;clear HC1 HC2 HD1 HD2;generalize Ak (cpN x) x.copies.length=D3 at *;generalize Ak (brN x) x.berths.length=D1 at *
  cases hci:An (cpN x) cn x.copies.length with
  | none =>
   have HS:=iH (aY (bn:=bn) hci);rw [hci] at hc1 hc2;simp only [Option.isSome_none,Option.getD_none] at hc1 hc2;clear hci hcN hbN;go_wp2_with (first | (at_lookup;refine wpList_lookup_own_ok_int _ rfl _ _ 77 rfl 9 3 .i64 Cq underlying77 underlying3 (Cv _) m3 _ _ rfl O3 _ _ rfl hkc ?_;intro c hcc _;obtain rfl:=Ij (hcc.symm.trans hc2);rw [hc1]) | (at_lookup;refine wpList_lookup_own_ok_int _ rfl _ _ 77 rfl 9 3 .i64 Cq underlying77 underlying3 (Cv _) m1 _ _ rfl O1 _ _ rfl hkb ?_;intro c' hcc' _;obtain rfl:=Ij (hcc'.symm.trans hb2);rw [hb1]) | (refine Ag rfl 69 _ _ rfl (w.heap.size+1) 0 Bm rfl rfl HT Cz (by simp [Value.oneCell']) w10 HW10 ?_));exact bodyPost_ret (Bi rfl _ _ (w.heap.size+1) Bm.toList _ rfl HR10 underlying69 rfl Cz) rfl ⟨Or.inl ⟨rfl,HS⟩,HB10⟩
  | some ci =>
   obtain ⟨_,y,hy,hyn⟩:=Jl hcN hci;clear hyn
   cases hbi:An (brN x) bn x.berths.length with
   | none =>
    have HS:=iH (cD (cn:=cn) hbi);rw [hci] at hc1 hc2;rw [hbi] at hb1 hb2;simp only [Option.isSome_none,Option.getD_none,Option.isSome_some,Option.getD_some] at hc1 hc2 hb1 hb2;clear hci hbi hcN hbN hy;go_wp2_with (first | (at_lookup;refine wpList_lookup_own_ok_int _ rfl _ _ 77 rfl 9 3 .i64 Cq underlying77 underlying3 (Cv _) m3 _ _ rfl O3 _ _ rfl hkc ?_;intro c hcc _;obtain rfl:=Ij (hcc.symm.trans hc2);rw [hc1]) | (at_lookup;refine wpList_lookup_own_ok_int _ rfl _ _ 77 rfl 9 3 .i64 Cq underlying77 underlying3 (Cv _) m1 _ _ rfl O1 _ _ rfl hkb ?_;intro c' hcc' _;obtain rfl:=Ij (hcc'.symm.trans hb2);rw [hb1]) | (refine Ag rfl 69 _ _ rfl (w.heap.size+1) 0 Bm rfl rfl HT Cz (by simp [Value.oneCell']) w10 HW10 ?_));exact bodyPost_ret (Bi rfl _ _ (w.heap.size+1) Bm.toList _ rfl HR10 underlying69 rfl Cz) rfl ⟨Or.inl ⟨rfl,HS⟩,HB10⟩
   | some bi =>
    obtain ⟨_,b,hb,hbn⟩:=Vv hbN hbi;clear hbn;have HS:=iH (aP HV hci hbi);rw [hci] at hc1 hc2;rw [hbi] at hb1 hb2;simp only [Option.isSome_some,Option.getD_some] at hc1 hc2 hb1 hb2;have HY:=iH hy;have HBY:=iH hb;clear hci hbi hcN hbN hy hb HT HR10 HB10 HW10;go_wp2_with (first | (at_lookup;refine wpList_lookup_own_ok_int _ rfl _ _ 77 rfl 9 3 .i64 Cq underlying77 underlying3 (Cv _) m3 _ _ rfl O3 _ _ rfl hkc ?_;intro c hcc _;obtain rfl:=Ij (hcc.symm.trans hc2);rw [hc1]) | (at_lookup;refine wpList_lookup_own_ok_int _ rfl _ _ 77 rfl 9 3 .i64 Cq underlying77 underlying3 (Cv _) m1 _ _ rfl O1 _ _ rfl hkb ?_;intro c' hcc' _;obtain rfl:=Ij (hcc'.symm.trans hb2);rw [hb1]));refine (Sh p x a1 c1 a2 c2 a3 c3 lo ci bi y b _ HF.out.1.ins (N1.out.below BrtC.holds HB1 nL) (N3.out.below CpyC.holds HB1 nL) l3 HY HBY).mono ?_;rintro e w2 ⟨a7,c7,am,cm,rfl,_,_,⟨cb,co,bb,bo,ea,eb,hs7,hsm⟩,hb2'⟩;have S7:Hid (SliceC LikC 2 lo w a7 y.likes):=by
     obtain ⟨b',o',e,_,hl,hc⟩:=N3.out.at HY;rw [ea] at e;cases e
     obtain ⟨a7',c7',_,_,_,_,_,_,_,q7,_,_,_,_,_,_,_,_,_,_,n7⟩:=hc;rw [HB1.out.cell (p:=⟨cb,co+ci*12+7,none⟩) hl] at hs7;have hq:=(show w.cell? ⟨cb,co+ci*12+7,none⟩=_ from q7).symm.trans hs7;simp only [Option.some.injEq,Value.slice.injEq] at hq;obtain ⟨rfl,_,_⟩:=hq;exact n7
    have SM:Hid (SliceC StrC 1 lo w am b.marks):=by
     obtain ⟨b',o',e,_,hl,hc⟩:=N1.out.at HBY;rw [eb] at e;cases e
     obtain ⟨am',cm',_,_,r2,_,_,_,_,_,nm⟩:=hc;rw [HB1.out.cell (p:=⟨bb,bo+bi*6+2,none⟩) hl] at hsm;have hq:=(show w.cell? ⟨bb,bo+bi*6+2,none⟩=_ from r2).symm.trans hsm;simp only [Option.some.injEq,Value.slice.injEq] at hq;obtain ⟨rfl,_,_⟩:=hq;exact nm
    have HB2:=iH (HB1.out.trans (hb2'.mono HB1.out.size));have HZ2:=iH (HZ1.out.below hb2' HZ1.out.lt);have HF2:=iH (HF.out.below hb2');clear hs7 hsm ea eb hb2' p4 p6 hc1 hc2 hb1 hb2;generalize hU:Ar x.copies b.name ci x.copies.length=V;have HU:=iH hU;clear hU;have HT2:=iH HZ2.out.there;have hR5:=World.rangeAt_setCells_same w2 (w.heap.size+1) 0 (Aq p ci bi y a7 c7 b am cm V.1 V.2.1 V.2.2).toList HZ2.out.there;have hB5:Below w.heap.size w (w2.setCells (w.heap.size+1) 0 (Aq p ci bi y a7 c7 b am cm V.1 V.2.1 V.2.2).toList):=Ad (by omega) _ _ _ HB2;have hF5:=HF2.out.cells HZ2 (by have:=HP2.out;omega) 0 (Aq p ci bi y a7 c7 b am cm V.1 V.2.1 V.2.2).toList;obtain ⟨w5,HW5⟩:∃ w5,Hid (w5=w2.setCells (w.heap.size+1) 0 (Aq p ci bi y a7 c7 b am cm V.1 V.2.1 V.2.2).toList):=⟨_,rfl⟩;rw [← HW5.out] at hR5 hB5 hF5;have HR5:=iH hR5;have HB5:=iH hB5;have HF5:=iH hF5;clear hR5 hB5 hF5;go_wp2_with (first | (refine Ag rfl 69 _ _ rfl (w.heap.size+1) 0 (Aq p ci bi y a7 c7 b am cm V.1 V.2.1 V.2.2) rfl rfl HT2 Cz (by simp [Value.oneCell']) w5 HW5 ?_));refine bodyPost_ret (Bi rfl _ _ (w.heap.size+1) (Aq p ci bi y a7 c7 b am cm V.1 V.2.1 V.2.2).toList _ rfl HR5 underlying69 rfl Cz) rfl ⟨Or.inr ⟨p,m1,m2,m3,m4,ci,bi,y,b,a7,c7,am,cm,?_,HV,HY,HBY,HS,HF5,HP,HM4,S7,SM⟩,HB5⟩;rw [HU.out];rfl
def LvR (x:Flt) (gone:List BA) (w:World) (e:Ending) (w':World):Prop :=
 ∃ v b,e=.returned (.tuple #[v,.bool b])∧(b=true↔May x gone)∧(b=true→∃ pa pc,v=.slice pa (Dl x gone).length pc∧SliceC IntC 1 w.heap.size w' pa (plI (Dl x gone))∧∀ (j q:Nat),(Dl x gone)[j]?=some q→q<x.copies.length)∧Below w.heap.size w w'
theorem Yp (p m1 m2 m3 m4:Nat) (x:Flt) (a1:OA) (c1:Nat) (a2:OA) (c2:Nat) (a3:OA) (c3:Nat) (lo:Nat) (gone:List BA) (ga:OA) (gc lo2:Nat) (w:World) (hf:Found p m1 m2 m3 m4 x a1 c1 a2 c2 a3 c3 w) (n2:SliceC SvcC 2 lo w a2 x.services) (n3:SliceC CpyC 12 lo w a3 x.copies) (hg:SliceC StrC 1 lo2 w ga gone) (hsm:gone.length≤1048576) (hv:Cf x=true) :
  Calls prog 30 #[.pointer (some ⟨p,0,none⟩),.slice ga gone.length gc] w fun e w'=>LvR x gone w e w':=by
 have HF:=iH hf;have N2:=iH n2;have N3:=iH n3;have HG:=iH hg;have HV:=iH hv;obtain ⟨l2,l3,hs,hc,hsp,hsv⟩:=Cg hv;have HSP:=iH hsp;have HSV:=iH hsv;clear hf n2 n3 hg hv hs hc hsp hsv;go_enter func30,ntmps30;go_wp2_with fail;refine (Ya p m3 (cpN x) gone ga gc lo2 _ (HF.out.1 6 _ rfl) (by have:=HF.out.2.2.2.2.1;simpa using this) HG hsm).mono ?_;rintro e w1 ⟨hb1,hh⟩;have HB1:=iH hb1;rcases hh with ⟨rfl,j,g,hj,hl⟩ | ⟨pl,v,rfl,hp,hown⟩
 ·have HN:=iH (nT hj hl)
  clear hb1 hj hl;go_wp2_with fail
  go_ret2
  exact ⟨_,false,rfl,⟨(fun h=>by cases h),(fun h=>absurd h.1 HN)⟩,(fun h=>by cases h),HB1⟩
 ·have HP:=iH hp
  have HEQ:Hid (pl=Dl x gone):=sG HV hp;have HL:=iH (kU HV hp);have hpl:pl.length=gone.length:=hp.1;rw [tD] at hown;obtain ⟨pa,pc,rfl,hps⟩:=lO (is:=plI pl) (by simpa using hown) (by simp;unfold maxLen;omega);simp only [List.length_map] at *;have HIN:Hid (∀ (j q:Nat),pl[j]?=some q→q<x.copies.length):=by
   intro j q hj;have hjl:=Ah hj;obtain ⟨r,h1,h2⟩:=hp.2 j _ (by omega) (gE (by omega));rw [hj] at h1;cases h1
   simpa using (Dk h2).1
  have HPS:=iH hps;have HOW:=iH hown;have HF1:=iH (HF.out.below hb1);have N3':=qSl CpyC.holds N3 hb1;have N2':=qSl SvcC.holds N2 hb1;have P3:w1.cell? ⟨p,3,none⟩=some (.slice a3 x.copies.length c3):=HF1.out.1 3 _ rfl;have HPL:=iH hpl;have hsm':pl.length≤1048576:=by omega
  clear hp hps hown hb1 hpl HP hsm;go_wp2_with fail;go_loopw [20] (fun i wr=>∃ (k:Nat),k≤pl.length∧i=.int .i64 k∧Hid (Pg x pl k)∧wr=w1) (fun i _=>pl.length - (intOf i).toNat)
  case atStart=>exact ⟨0,zL,rfl,⟨fun j q h=>absurd h (Nat.not_lt_zero _),fun j q r h=>absurd h (Nat.not_lt_zero _)⟩,rfl⟩
  case round =>
   obtain ⟨k,hk,rfl,hA,rfl⟩:=hrel;by_cases hlt:k<pl.length
   ·obtain ⟨q,hq⟩:=gXe hlt
    have hqc:=HIN.out k q hq;obtain ⟨y,hy⟩:=gXe hqc;obtain ⟨b',o',rfl,_,_,hcp⟩:=HPS.out.at (Pn hq);have t0:_=_:=hcp;simp only [Nat.mul_one,Nat.add_zero] at t0;obtain ⟨b,o,rfl,_,_,hc⟩:=N3'.out.at hy;obtain ⟨a7,c7,q0,q1,q2,q3,q4,q5,q6,q7,q8,q9,q10,q11,z0,z1,z6,z9,z10,z11,z7⟩:=hc;have HQ:=iH hq;have HY:=iH hy;clear hcp q0 q1 q2 q3 q4 q5 q6 q7 q8 q9 q10 z0 z1 z6 z9 z10 z11 z7 hq hy;by_cases hat:y.at_=⟨#[]⟩
    ·have HN:Hid (¬ Pg x pl pl.length):=by
      intro h;obtain ⟨c,h1,h2⟩:=h.1 k q hlt HQ;rw [HY.out] at h1;cases h1
      exact h2 hat
     have hte:=Bf hat;have hte2:y.at_.toList.isEmpty=true:=by rw [hte];rfl
     clear hat;go_wp2_with fail
     go_ret2
     exact ⟨_,false,rfl,⟨(fun h=>by cases h),(fun h=>absurd (HL.out.2 h).1 HN)⟩,(fun h=>by cases h),HB1⟩
    ·have hte:=Ay hat
     have hte2:y.at_.toList.isEmpty=false:=by
      cases h:y.at_.toList with
      | nil=>exact absurd h hte
      | cons a l=>rfl
     have HAT:=iH hat;clear hat
     cases k with
     | zero =>
      have t0':wr.cell? ⟨b',o',none⟩=some (.int .i64 (q:Int)):=by simpa using t0
      go_wp2_with fail;go_roundw
      case rel =>
       refine ⟨0+1,by omega,by go_num,⟨fun j r hj hr=>?_,fun j q r h=>absurd h (by omega)⟩,trivial⟩;have:j=0:=by omega
       subst this;rw [HQ.out] at hr;cases hr
       exact ⟨y,HY,HAT⟩
      case measure=>simp [intOf];omega
     | succ m =>
      obtain ⟨r,hr⟩:∃ r,pl[m]?=some r:=⟨pl[m],gE (by omega)⟩;have t1:wr.cell? ⟨b',o'+m,none⟩=some (.int .i64 (r:Int)):=by
       obtain ⟨b2,o2,e,_,_,hcp⟩:=HPS.out.at (Pn hr);cases e
       have t1:_=_:=hcp;simpa only [Nat.mul_one,Nat.add_zero] using t1
      have HR:=iH hr;clear hr;by_cases hge:(q:Int)≤(r:Int)
      ·have HN:Hid (¬ Pg x pl pl.length):=by
        intro h;have:=h.2 m r q hlt HR HQ;omega
       go_wp2_with fail
       go_ret2
       exact ⟨_,false,rfl,⟨(fun h=>by cases h),(fun h=>absurd (HL.out.2 h).1 HN)⟩,(fun h=>by cases h),HB1⟩
      ·go_wp2_with fail
       go_roundw
       case rel =>
        refine ⟨m+1+1,by omega,by go_num,⟨fun j r' hj hr=>?_,fun j u u' hj hu hu'=>?_⟩,trivial⟩
        ·by_cases e:j=m+1
         ·subst e
          rw [HQ.out] at hr;cases hr
          exact ⟨y,HY,HAT⟩
         ·exact hA.out.1 j r' (by omega) hr
        ·by_cases e:j=m
         ·subst e
          rw [HR.out] at hu;rw [HQ.out] at hu';cases hu
          cases hu'
          omega
         ·exact hA.out.2 j u u' (by omega) hu hu'
       case measure=>simp [intOf];omega
   ·have hke:k=pl.length:=by omega
    subst hke;go_wp2_with fail;refine (mQ p m2 x a2 c2 a3 c3 lo _ (HF1.out.1 2 _ rfl) P3 (HF1.out.1 5 _ rfl) HF1.out.2.2.2.1 N2'.out N3'.out l2 l3 HSP HSV).mono ?_;rintro e w2 ⟨g,is,rfl,hS,hown,hb2⟩;have HS:=iH hS;have HO:=iH hown;have HB2:=iH hb2;have HF2:=iH (HF1.out.below hb2);have P3':w2.cell? ⟨p,3,none⟩=some (.slice a3 x.copies.length c3):=HF2.out.1 3 _ rfl;clear hS hown hb2;go_wp2_with fail;refine (fR p m2 x a3 c3 lo w.heap.size pl pa pc is g wr.heap.size _ P3' (HF2.out.1 5 _ rfl) HF2.out.2.2.2.1 (N3'.out.below CpyC.holds HB2 nL) l2 l3 HSP HSV (HPS.out.below IntC.holds HB2 nL) hsm' HIN HS HO).mono ?_;rintro e w3 ⟨bb,rfl,hbb,hb3⟩;have HBB:=iH hbb;have HB3:=iH hb3;clear hbb hb3;go_wp2_with fail
    go_ret2
    refine ⟨_,bb,rfl,⟨fun h=>HL.out.1 ⟨hA.out,HBB.out.1 h⟩,fun h=>HBB.out.2 (HL.out.2 h).2⟩,(fun _=>?_),?_⟩
    ·rw [← HEQ.out]
     exact ⟨pa,pc,rfl,(HPS.out.below IntC.holds HB2 nL).below IntC.holds HB3 nL,HIN⟩
    have h1:=HB1.out.trans (HB2.out.mono HB1.out.size);exact h1.trans (HB3.out.mono h1.size)
end Go.Proofs.YtjoeojhdkoidbaaGreat
namespace Go.Proofs.YtjoeojhdkoidbaaGreat
open Go.RowKit Tryz
theorem Qr {B:Nat} {w w':World} (h:Below B w w') (n:Nat):Below B w (w'.drewN n):=⟨h.os,h.tape,h.output,h.size,h.block⟩
theorem Xw (pf ps p b o n c t:Nat) (s u:BA) (w:World) (h1:w.cell? ⟨pf,0,none⟩=some (.pointer (some ⟨p,0,none⟩))) (h2:w.cell? ⟨ps,0,none⟩=some (.string s)) (h3:w.cell? ⟨p,3,none⟩=some (.slice (some ⟨b,o,none⟩) n c)) (h4:w.cell? ⟨b,o+t*12+11,none⟩=some (.string u)) (ht:t<n) :
  Calls prog 70 #[.int .i64 (t:Int),.pointer (some ⟨pf,0,none⟩),.pointer (some ⟨ps,0,none⟩)] w (Rt (.bool (!decide (u=s))) w):=by
 by_cases h:u=s
 ·have HE:Hid ((!decide (u=s))=false):=by show _=_;simp [h]
  have hb:=Bo h;clear h;go_enter func70,ntmps70;go_upto_region 1 with fail
  go_quiet (fail)
  go_wp2_with fail;go_ret;exact ⟨Ac HE.out.symm,Qr (Below.refl _ _) _⟩
 ·have HE:Hid ((!decide (u=s))=true):=by show _=_;simp [h]
  have hb:=Bt h;clear h;go_enter func70,ntmps70;go_upto_region 1 with fail
  go_quiet (fail)
  go_wp2_with fail;go_ret;exact ⟨Ac HE.out.symm,Qr (Below.refl _ _) _⟩
theorem fN (f:Nat) (cap:Array Value) (Q:Nat→Bool) (xs:List Nat) (a:OA) (ca lo:Nat) (w:World) (hin:SliceC IntC 1 lo w a (plI xs)) (hsm:xs.length≤1048576)
  (hf:∀ x∈xs,∀ v,Below w.heap.size w v→Calls prog f (#[.int .i64 (x:Int)]++cap) v fun e w'=>e=.returned (.bool (Q x))∧Below v.heap.size v w') (heg:∀ args w,(callFunc f args).run prog w=.ok (.enter f args) w) :
  Calls prog 104 #[.slice a xs.length ca,.func (.func f) #[] cap] w fun e w'=>∃ k:Int,e=.returned (.int .i64 k)∧((0≤k∧xs.any Q=true)∨(k=-1∧xs.any Q=false))∧Below w.heap.size w w':=by
 have HI:=iH hin;have HFF:=iH hf;clear hin hf;go_enter func104,ntmps104;go_wp2_with fail;go_loopw [8] (fun i wr=>∃ k:Nat,k≤xs.length∧i=.int .i64 k∧Hid (∀ x∈xs.take k,Q x=false)∧Below w.heap.size w wr) (fun i _=>xs.length - (intOf i).toNat)
 case atStart=>exact ⟨0,zL,rfl,fun x hx=>by simp at hx,Below.refl _ _⟩
 case round =>
  obtain ⟨k,hk,rfl,HN,hB⟩:=hrel;by_cases hlt:k<xs.length
  case neg =>
   have hke:k=xs.length:=by omega
   subst hke;have HA:Hid (xs.any Q=false):=by
    have:=HN.out;rw [List.take_length] at this;show _=_
    rw [List.any_eq_false];intro x hx;rw [this x hx];exact Bool.false_ne_true
   go_wp2_with fail;go_ret;exact ⟨-1,rfl,.inr ⟨rfl,HA⟩,hB⟩
  obtain ⟨x,hx⟩:=gXe hlt;obtain ⟨b,ob,rfl,_,hbl,hc⟩:=(HI.out.below IntC.holds hB nL).at (Pn hx);have t0:_=_:=hc;simp only [Nat.mul_one,Nat.add_zero] at t0;have HXM:Hid (x∈xs):=List.mem_of_getElem? hx;have HNX:Hid (Q x=false→∀ y∈xs.take (k+1),Q y=false):=by
   intro hp y hy;rw [List.take_add_one,hx] at hy;simp at hy;rcases hy with h | h
   ·exact HN.out y h
   ·rw [h];exact hp
  clear hc hx HN;go_wp2_with fail;refine (HFF x HXM _ hB).mono ?_;rintro e w5 ⟨rfl,hb5⟩;have hB5:=qTr hB hb5;clear hb5 hB t0
  cases hP:Q x with
  | true =>
   have HA:Hid (xs.any Q=true):=List.any_eq_true.2 ⟨x,HXM,hP⟩;clear hP HNX;go_wp2_with fail;go_ret;exact ⟨k,rfl,.inl ⟨by omega,HA⟩,hB5⟩
  | false =>
   have HN2:=iH (HNX hP);clear hP HNX;go_wp2_with fail;go_roundw
   case rel=>exact ⟨k+1,by omega,by go_num,HN2,hB5⟩
   case measure=>simp [intOf];omega
theorem Vm (f:Nat) (cap:Array Value) (Q:Nat→Bool) (xs:List Nat) (a:OA) (ca lo:Nat) (w:World) (hin:SliceC IntC 1 lo w a (plI xs)) (hsm:xs.length≤1048576)
  (hf:∀ x∈xs,∀ v,Below w.heap.size w v→Calls prog f (#[.int .i64 (x:Int)]++cap) v fun e w'=>e=.returned (.bool (Q x))∧Below v.heap.size v w') (heg:∀ args w,(callFunc f args).run prog w=.ok (.enter f args) w) :
  Calls prog 69 #[.slice a xs.length ca,.func (.func f) #[] cap] w (Rt (.bool (xs.any Q)) w):=by
 go_enter func69,ntmps69;have HCC:=iH (fN f cap Q xs a ca lo w hin hsm hf heg);clear hin hf heg;go_wp2_with fail;refine HCC.out.mono ?_;rintro e w4 ⟨k,rfl,hk,hb4⟩;rcases hk with ⟨h1,h2⟩ | ⟨h1,h2⟩
 ·go_wp2_with fail
  go_ret;exact ⟨Ac h2.symm,hb4⟩
 ·subst h1
  go_wp2_with fail;go_ret;exact ⟨Ac h2.symm,hb4⟩
def Mt (l:List Cpy) (s:BA) (t:Nat):Bool:=match l[t]? with
 | some c=>!decide (c.at_=s)
 | none=>false
theorem Yi (p:Nat) (l:List Cpy) (a3:OA) (c3 lo:Nat) (s:BA) (pl:List Nat) (pa:OA) (pc lo2:Nat) (w:World) (hp:w.cell? ⟨p,3,none⟩=some (.slice a3 l.length c3)) (n3:SliceC CpyC 12 lo w a3 l) (hps:SliceC IntC 1 lo2 w pa (plI pl)) (hin:∀ (j t:Nat),pl[j]?=some t→t<l.length) (hsm:pl.length≤1048576) :
  Calls prog 31 #[.pointer (some ⟨p,0,none⟩),.slice pa pl.length pc,.string s] w (Rt (.bool (!pl.any (Mt l s))) w):=by
 have hmf:∀ (fn:Fn) (first cap:Array Value) (w:World),(Instr.makeFunc fn first cap).run prog w=.ok (.func fn first cap) w:=fun _ _ _ _=>rfl
 have hba:=bl2 w #[.pointer (some ⟨p,0,none⟩)] 65 #[.string s] 9;have H1:Hid (((w.alloc (Obj.cells #[.pointer (some ⟨p,0,none⟩)] 65)).alloc (Obj.cells #[.string s] 9)).cell? ⟨w.heap.size,0,none⟩=some (.pointer (some ⟨p,0,none⟩))):=by show _=_;simp
 have H2:Hid (((w.alloc (Obj.cells #[.pointer (some ⟨p,0,none⟩)] 65)).alloc (Obj.cells #[.string s] 9)).cell? ⟨w.heap.size+1,0,none⟩=some (.string s)):=by show _=_;simp
 have hs2:w.heap.size+1<((w.alloc (Obj.cells #[.pointer (some ⟨p,0,none⟩)] 65)).alloc (Obj.cells #[.string s] 9)).heap.size:=by simp
 have hpw:p<w.heap.size:=World.block_lt_of_cell? w _ hp;have HP:=iH ((hba.cell (p:=⟨p,3,none⟩) hpw).trans hp);have N3:=iH (n3.below CpyC.holds hba nL);have HPS:=iH (hps.below IntC.holds hba nL);have HIN:=iH hin;clear hp n3 hps hin;go_enter func31,ntmps31;go_upto_region 1 with fail;generalize (w.alloc (Obj.cells #[.pointer (some ⟨p,0,none⟩)] 65)).alloc (Obj.cells #[.string s] 9)=w0 at *;go_wp2_with fail;refine (Vm 70 #[.pointer (some ⟨w.heap.size,0,none⟩),.pointer (some ⟨w.heap.size+1,0,none⟩)] (Mt l s) pl pa pc lo2 w0 HPS hsm (fun x hx v hv=>?_) (fun _ _=>rfl)).mono ?_
 ·obtain ⟨j,hj⟩:=List.getElem?_of_mem hx
  have hxl:=HIN.out j x hj;obtain ⟨y,hy⟩:=gXe hxl;have hc:=(N3.out.below CpyC.holds hv nL).at hy;have hp3:=(hv.cell (p:=⟨p,3,none⟩) (by show p<w0.heap.size;omega)).trans HP;obtain ⟨b,o,rfl,_,_,a7,c7,q0,q1,q2,q3,q4,q5,q6,q7,q8,q9,q10,q11,_⟩:=hc;have e9:Mt l s x=!decide (y.at_=s):=by unfold Mt;rw [hy]
  rw [e9];exact Xw w.heap.size (w.heap.size+1) p b o l.length c3 x s y.at_ v ((hv.cell (p:=⟨w.heap.size,0,none⟩) (by show w.heap.size<w0.heap.size;omega)).trans H1) ((hv.cell (p:=⟨w.heap.size+1,0,none⟩) hs2).trans H2) hp3 q11 hxl
 rintro e w4 ⟨rfl,hb4⟩;have HB4:=iH (qTr hba hb4);clear hb4 hba;obtain ⟨qq,hqq⟩:∃ q,pl.any (Mt l s)=q:=⟨_,rfl⟩;have HQ:=iH hqq;rw [hqq];clear hqq;cases qq <;> (go_wp2_with fail;go_ret;exact ⟨Ac (by first | rfl | (rw [HQ.out];rfl)),HB4⟩)
end Go.Proofs.YtjoeojhdkoidbaaGreat
namespace Go.Proofs.YtjoeojhdkoidbaaGreat
open Go.RowKit Go.WideMaps Go.Maps Tryz
theorem vC {α:Type} (f:α→Nat):∀ (xs:List α) (x:α),x∈xs→f x≤(xs.map f).sum
 | [],_,h=>by cases h
 | a::r,x,h=>by
  rw [List.map_cons,List.sum_cons];rcases List.mem_cons.1 h with rfl | h
  ·omega
  ·have:=vC f r x h
   omega
theorem qE {α:Type} {f:α→Nat} {xs:List α} {x:α} (h:x∈xs):f x≤wS f xs:=by
 have:=vC f xs x h;unfold wS;omega
theorem oV {x:Flt} (h:Ek x≤1048576):SmB x.berths∧Uf x.services 1048576∧SmC x.copies∧x.services.length≤1048576∧x.berths.length≤1048576∧x.copies.length≤1048576:=by
 unfold Ek at h;have l1:=Eo (f:=Ct) (xs:=x.berths);have l2:=Eo (f:=Dj) (xs:=x.services);have l3:=Eo (f:=Cl) (xs:=x.copies);refine ⟨fun b hb=>?_,fun s hs=>?_,fun c hc=>?_,by omega,by omega,by omega⟩
 ·have h1:=qE (f:=Ct) hb
  have h2:=Eo (f:=ByteArray.size) (xs:=b.marks);have h3:Ct b=b.name.size+b.zone.size+wS ByteArray.size b.marks:=rfl;exact ⟨by omega,fun m hm=>by have:=qE (f:=ByteArray.size) hm;omega,by omega,by omega⟩
 ·have h1:=qE (f:=Dj) hs
  have h3:Dj s=s.name.size:=rfl;omega
 ·have h1:=qE (f:=Cl) hc
  have h2:=Eo (f:=Dp) (xs:=c.likes);have h4:Cl c=c.name.size+c.service.size+c.select.size+wS Dp c.likes+c.near.size+c.fixed.size+c.at_.size:=rfl;exact ⟨by omega,fun m hm=>by have h3:=qE (f:=Dp) hm;have h5:Dp m=m.select.size:=rfl;omega,by omega,by omega,by omega,by omega,by omega,by omega⟩
theorem NwRes.noD {w w':World} (hw:w.heap.size<w'.heap.size) (hb:Below w.heap.size w w'):NwRes noF w (.returned (.agg FfA)) w' :=
 ⟨.none,0,.none,0,.none,0,w.heap.size+1,w'.heap.size,w'.heap.size,rfl,by omega,by omega,hw,Nat.le_refl _,Nat.le_refl _,⟨w',OwnA.nil,Nat.le_refl _,KpB.below (Below.refl _ _)⟩,OwnA.nil,World.ownsRow_nil _ _ _ _,(fun b e=>by cases e),OwnA.nil,hb⟩
theorem eV {w w':World} {base:Nat} {e:TypeId} {size:Nat} {v:Value} {k:Nat} {xs:List Value} (h:w.ownsRow base e size v k xs) (hk:∀ b,v.ownBlock=some b→w'.heap[b]?=w.heap[b]?):w'.ownsRow base e size v k xs:=by
 refine ⟨h.1,?_⟩;rcases h.2 with h2 | ⟨g,cap,cur,h1,hb,hg,h3⟩
 ·exact .inl h2
 ·exact .inr ⟨g,cap,cur,h1,hb,(hk g (by rw [h1];rfl)).trans hg,h3⟩
theorem NwRes.done {x r:Flt} {w w4 w5 w9:World} {g1:OA} {q1:Nat} {g2:OA} {q2 G q3 B1 B2 B3:Nat} (hB:Below w.heap.size w w4) (e0:r.pack=x.pack) (e1:r.berths=x.berths) (e2:r.services=x.services) (el:r.copies.length=x.copies.length) (h0:0<B1) (h1:w4.heap.size≤B1) (h2:B1≤B2) (h3:B2≤B3) (h4:B3≤w5.heap.size) (hG:B3≤G)
  (hT:OwnT vBr Brt.marks StrC 1 6 2 60 B1 B2 w5 (.slice g1 x.berths.length q1) x.berths) (hs:w5.ownsRow B2 103 2 (.slice g2 x.services.length q2) x.services.length (Dq x.services)) (ht:∀ b,(Value.slice g2 x.services.length q2).ownBlock=some b→b<B3)
  (hc:Oj B3 w9 (.slice (some ⟨G,0,none⟩) r.copies.length q3) r.copies) (hk:∀ k,B1≤k→k<w5.heap.size→k≠G→w9.heap[k]?=w5.heap[k]?) (hz:w5.heap.size≤w9.heap.size) (hb9:Below w.heap.size w w9) :
  NwRes r w (.returned (.agg (ffA x g1 q1 g2 q2 (some ⟨G,0,none⟩) q3))) w9:=by
 have hT9:OwnT vBr Brt.marks StrC 1 6 2 60 B1 B2 w9 (.slice g1 x.berths.length q1) x.berths:=hT.keep hz (fun k a b c=>hk k a c (by omega));have hs9:=eV (w':=w9) hs (fun b hb=>hk b (by have:=(hs.lt b hb).1;omega) (hs.lt b hb).2 (by have:=ht b hb;omega));have hw:=hB.size;refine ⟨g1,q1,g2,q2,some ⟨G,0,none⟩,q3,B1,B2,B3,by (try unfold ffA);rw [e0,e1,e2,el],h0,by omega,h2,h3,by omega,?_⟩;rw [e1,e2];exact ⟨hT9,hT9.own StrC.holds,hs9,ht,hc,hb9⟩
theorem mI {w:World} {a:Addr} {v:Value} (h:w.cell? a=some v):∃ cs t f,w.heap[a.block]?=some (Obj.cells cs t f):=by
 unfold World.cell? at h
 split at h
 ·rename_i c t f hc
  exact ⟨c,t,f,hc⟩
 ·cases h
theorem Ql {H:Type} {P:Program} {k:TypeId} {R:Value→Option (DataW H×List MemPlace)} {m n G:Nat} {D:DataW H} {w:World} (h:w.ownsMap P k R m n D) (hG:∃ cs t f,w.heap[G]?=some (Obj.cells cs t f)) (o:Nat) (vs:List Value):(w.setCells G o vs).ownsMap P k R m n D:=by
 have hne:=Me h hG;obtain ⟨es,clock,h1,h2,h3,h4⟩:=h;exact ⟨es,clock,(Bq hne vs o w).trans h1,h2,h3,h4⟩
theorem qA {p m1 m2 m3 m4:Nat} {x:Flt} {a1:OA} {c1:Nat} {a2:OA} {c2:Nat} {a3:OA} {c3:Nat} {w:World} (h:FoundZ p m1 m2 m3 m4 x a1 c1 a2 c2 a3 c3 w):w.there p 0 4:=by
 intro j hj;refine ⟨?_,h.2 _⟩;have hj':j=0∨j=1∨j=2∨j=3:=by omega
 rcases hj' with rfl | rfl | rfl | rfl
 ·rw [h.1.1 0 _ rfl];rfl
 ·rw [h.1.1 1 _ rfl];rfl
 ·rw [h.1.1 2 _ rfl];rfl
 ·rw [h.1.1 3 _ rfl];rfl
theorem FoundZ.fleet {p m1 m2 m3 m4:Nat} {x:Flt} {a1:OA} {c1:Nat} {a2:OA} {c2:Nat} {a3:OA} {c3:Nat} {w:World} (h:FoundZ p m1 m2 m3 m4 x a1 c1 a2 c2 a3 c3 w) (g1:OA) (q1:Nat) (g2:OA) (q2:Nat) (g3:OA) (q3:Nat):Found p m1 m2 m3 m4 x g1 q1 g2 q2 g3 q3 (w.setCells p 0 (ffL x g1 q1 g2 q2 g3 q3)):=by
 have hG:=mI (h.1.1 0 _ rfl);have ht:=qA h;obtain ⟨⟨h1,h2,h3,h4,h5,h6⟩,_⟩:=h;refine ⟨fun j v hj=>?_,by rw [Bb];exact h2,Ql h3 hG _ _,Ql h4 hG _ _,Ql h5 hG _ _,?_⟩
 ·by_cases hl:j<4
  ·refine World.rangeAt_setCells_same w p 0 (ffL x g1 q1 g2 q2 g3 q3) ht j v ?_
   have hj':j=0∨j=1∨j=2∨j=3:=by omega
   rcases hj' with rfl | rfl | rfl | rfl <;> exact hj
  ·rw [World.cell?_setCells_out p _ 0 w _ (fun _ _=>.inr (by show 0+4≤0+j;omega))]
   refine h1 j v ?_;have hj2:=Ah hj;have hj':j=4∨j=5∨j=6∨j=7:=by simp at hj2;omega
   rcases hj' with rfl | rfl | rfl | rfl <;> exact hj
 ·have hne:m4≠p:=by
   rintro rfl;obtain ⟨cs,t,f,g⟩:=hG;have g':w.heap[m4]?=some (Obj.cells cs t f):=g;rw [h6] at g';cases g'
  exact (Bq hne _ _ w).trans h6
theorem Qg {lo:Nat} {w:World} {a:OA} {l:List Cpy} (h:SliceC CpyC 12 lo w a l):SzC l:=by
 intro c hc;obtain ⟨i,hi⟩:=List.getElem?_of_mem hc;obtain ⟨_,_,_,_,_,a7,c7,_,_,_,_,_,_,_,_,_,_,_,_,z0,z1,z6,z9,z10,z11,_⟩:=h.at hi;exact ⟨z0,z1,z6,z9,z10,z11⟩
theorem uA {lo:Nat} {w:World} {a:OA} {l:List Brt} (h:SliceC BrtC 6 lo w a l):SzB l:=by
 intro c hc;obtain ⟨i,hi⟩:=List.getElem?_of_mem hc;obtain ⟨_,_,_,_,_,a7,c7,_,_,_,_,_,_,z0,z1,_⟩:=h.at hi;exact ⟨z0,z1⟩
theorem Wn {x:Flt} {cn bn:BA} {ci bi:Nat} {b:Brt} (h:Ig x cn bn=some (ci,bi)) (hb:x.berths[bi]?=some b):b.name=bn:=by
 unfold Ig at h
 split at h
 ·split at h
  ·rename_i e1 e2
   cases h
   have h9:=(Dk e2).2;rw [Dm hb] at h9;cases h9
   rfl
  ·cases h
 ·cases h
theorem pP {l:List Cpy} {s:BA} {pl:List Nat} (h:pl.any (Mt l s)=false):∀ q,q∈pl→∀ c,l[q]?=some c→c.at_=s:=by
 intro q hq c hc;have h9:=List.any_eq_false.1 h q hq;unfold Mt at h9;rw [hc] at h9;simpa using h9
theorem lQ {l:List Cpy} {s:BA} {pl:List Nat} (h:pl.any (Mt l s)=true):¬ ∀ q,q∈pl→∀ c,l[q]?=some c→c.at_=s:=by
 intro h2;obtain ⟨q,hq,h9⟩:=List.any_eq_true.1 h;unfold Mt at h9
 split at h9
 ·rename_i c hc
  rw [h2 q hq c hc] at h9;simp at h9
 ·cases h9
theorem noW {w wc:World} (hz:Blk (w.heap.size+2) FfA 36 wc) (hb:Below w.heap.size w wc):∃ wf,Hid (wf=wc.setCells (w.heap.size+2) 0 FfL)∧Hid (wc.there (w.heap.size+2) 0 4)∧Hid (wf.rangeAt (w.heap.size+2) 0 FfL)∧Hid (Below w.heap.size w wf∧w.heap.size<wf.heap.size) :=
 ⟨_,rfl,hz.there,World.rangeAt_setCells_same wc (w.heap.size+2) 0 _ hz.there,Ad (by omega) _ _ _ hb,by rw [Bb];have:=hz.lt;omega⟩
def uL (x:Flt) (s:Stp) (w:World) (e:Ending) (w':World):Prop:=∃ u r t,e=.returned (.tuple #[u,.bool t])∧DoRes x s r t∧NwRes r w (.returned u) w'
end Go.Proofs.YtjoeojhdkoidbaaGreat
