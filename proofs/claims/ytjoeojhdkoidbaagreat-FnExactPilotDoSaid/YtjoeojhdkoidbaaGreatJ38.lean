import Derived.Test.YtjoeojhdkoidbaaGreatJ37
set_option maxHeartbeats 4000000
namespace Go.Proofs.YtjoeojhdkoidbaaGreat
open Tryz
set_option maxRecDepth 100000
open Go.RowKit Go.WideMaps Go.Maps Tryz
def FoundZ (p m1 m2 m3 m4:Nat) (x:Flt) (a1:OA) (c1:Nat) (a2:OA) (c2:Nat) (a3:OA) (c3:Nat) (w:World):Prop:=Found p m1 m2 m3 m4 x a1 c1 a2 c2 a3 c3 w∧∀ j,w.frozen? ⟨p,j,none⟩=false
theorem FoundZ.below {p m1 m2 m3 m4:Nat} {x:Flt} {a1:OA} {c1:Nat} {a2:OA} {c2:Nat} {a3:OA} {c3:Nat} {w w':World} (h:FoundZ p m1 m2 m3 m4 x a1 c1 a2 c2 a3 c3 w) (hb:Below w.heap.size w w'):FoundZ p m1 m2 m3 m4 x a1 c1 a2 c2 a3 c3 w':=⟨h.1.below hb,fun j=>(hb.frozen (p:=⟨p,j,none⟩) h.1.2.1).trans (h.2 j)⟩
theorem Tw (x:Flt) (a1:OA) (c1:Nat) (a2:OA) (c2:Nat) (a3:OA) (c3:Nat) (lo:Nat) (w:World) (n1:SliceC BrtC 6 lo w a1 x.berths) (n2:SliceC SvcC 2 lo w a2 x.services) (n3:SliceC CpyC 12 lo w a3 x.copies)
  (l1:x.berths.length≤1048576) (l2:x.services.length≤1048576) (l3:x.copies.length≤1048576) :
  Calls prog 64 #[.agg (ffA x a1 c1 a2 c2 a3 c3)] w fun e w'=>∃ v,e=.returned (.tuple #[v,.bool (Ce x)])∧Below w.heap.size w w' ∧
   (Ce x=true→∃ p m1 m2 m3 m4,v=.pointer (some ⟨p,0,none⟩)∧w.heap.size≤p∧w.heap.size≤m4∧FoundZ p m1 m2 m3 m4 x a1 c1 a2 c2 a3 c3 w'):=by
 have N1:=iH n1;have N2:=iH n2;have N3:=iH n3;have HV:Hid (Ce x=(Dp x && (Fd x && (Cg x.berths && (Ff x.services && (Bu x && Dd x.berths x.copies)))))):=rfl;clear n1 n2 n3;generalize Ce x=V at *;go_enter func64,ntmps64;go_wp2_with fail;refine (kM x a1 c1 a2 c2 a3 c3 lo _ (N1.out.below BrtC.holds (B:=w.heap.size) (by go_grown) nL) (N2.out.below SvcC.holds (B:=w.heap.size) (by go_grown) nL) (N3.out.below CpyC.holds (B:=w.heap.size) (by go_grown) nL) l1 l2 l3).mono ?_;rintro e w1 ⟨p,m1,m2,m3,m4,rfl,hp,hrg,ho1,ho2,ho3,hg4,hm4,hb1,hfz⟩;have HB1:Hid (Below w.heap.size w w1):=(show Below w.heap.size w _ by go_grown).trans (hb1.mono (by simp));have HP:Hid (w.heap.size≤p):=lT (show w.heap.size≤_ by simp) hp;have HG4:Hid (w.heap.size≤m4):=lT (show w.heap.size≤_ by simp) hg4;have HF1:Hid (FoundZ p m1 m2 m3 m4 x a1 c1 a2 c2 a3 c3 w1):=⟨⟨hrg,block_lt_of_cell (hrg 1 _ rfl),ho1,ho2,ho3,hm4⟩,hfz⟩;clear hrg ho1 ho2 ho3 hb1 hp hg4 hm4 hfz;go_wp2_with fail;refine (fI _).mono ?_;rintro e w2 ⟨g,rfl,hg,hgl,hb2⟩;have HB2:=qTH HB1 hb2;have HF2:Hid (FoundZ p m1 m2 m3 m4 x a1 c1 a2 c2 a3 c3 w2):=HF1.out.below hb2;have HG2:=iH hg;have HGL:=iH hgl;clear hg hgl hb2 HB1 HF1;go_wp2_with fail;go_loopw [11] (fun i wr=>∃ k:Nat,k≤6∧i=.int .i64 k∧Hid ((0<k→(Dp x)=true)∧(1<k→(Fd x)=true)∧(2<k→(Cg x.berths)=true)∧(3<k→(Ff x.services)=true)∧(4<k→(Bu x)=true)∧(5<k→(Dd x.berths x.copies)=true))∧Hid (FoundZ p m1 m2 m3 m4 x a1 c1 a2 c2 a3 c3 wr)∧Hid (wr.rangeAt g 0 [.func (.func 130) #[] #[],.func (.func 131) #[] #[],.func (.func 132) #[] #[],.func (.func 133) #[] #[],.func (.func 134) #[] #[],.func (.func 135) #[] #[]])∧Hid (g<wr.heap.size)∧Hid (Below w.heap.size w wr)) (fun i _=>6 - (intOf i).toNat)
 case atStart=>exact ⟨0,by omega,rfl,⟨fun h=>absurd h (by omega),fun h=>absurd h (by omega),fun h=>absurd h (by omega),fun h=>absurd h (by omega),fun h=>absurd h (by omega),fun h=>absurd h (by omega)⟩,HF2,HG2,HGL,HB2⟩
 case round =>
  clear HF2 HG2 HGL HB2;obtain ⟨k,hk,rfl,he,hF,hG,hgl,hb⟩:=hrel;have hk':k=0∨k=1∨k=2∨k=3∨k=4∨k=5∨k=6:=by omega
  rcases hk' with rfl | rfl | rfl | rfl | rfl | rfl | rfl
  ·have c0:wr.cell? ⟨g,0,none⟩=some (.func (.func 130) #[] #[]):=hG.out 0 _ rfl
   go_wp2_with fail;refine (qX p x a1 c1 a2 c2 a3 c3 _ hF.out.1.ins).mono ?_;rintro e w3 ⟨rfl,hb3⟩;have HF3:Hid (FoundZ p m1 m2 m3 m4 x a1 c1 a2 c2 a3 c3 w3):=hF.out.below hb3;have HG3:=iH (Ab hG.out hb3 hgl.out);have HL3:Hid (g<w3.heap.size):=lL hgl.out hb3.size;have HB3:=qTH hb hb3;clear hb3 hF hG hgl hb c0
   cases hh:Dp x with
   | false =>
    have HC:Hid (V=false):=by show _=_;rw [HV.out,hh];rfl
    clear hh he HV;go_wp2_with fail
    go_ret2
    exact ⟨.pointer none,by rw [HC.out];rfl,HB3,fun h=>absurd (HC.out.symm.trans h) (by decide)⟩
   | true =>
    have HE:Hid ((0<0+1→(Dp x)=true)∧(1<0+1→(Fd x)=true)∧(2<0+1→(Cg x.berths)=true)∧(3<0+1→(Ff x.services)=true)∧(4<0+1→(Bu x)=true)∧(5<0+1→(Dd x.berths x.copies)=true)):=⟨fun _=>hh,fun h=>absurd h (by omega),fun h=>absurd h (by omega),fun h=>absurd h (by omega),fun h=>absurd h (by omega),fun h=>absurd h (by omega)⟩;clear hh he;go_wp2_with fail;go_roundw
    case rel=>exact ⟨0+1,by omega,by go_num,HE,HF3,HG3,HL3,HB3⟩
    case measure=>simp [intOf]
  ·have c0:wr.cell? ⟨g,1,none⟩=some (.func (.func 131) #[] #[]):=hG.out 1 _ rfl
   go_wp2_with fail;refine (rP p x a1 c1 a2 c2 a3 c3 lo _ hF.out.1.ins (N1.out.below BrtC.holds hb.out nL) (N2.out.below SvcC.holds hb.out nL) (N3.out.below CpyC.holds hb.out nL) l1 l2 l3).mono ?_;rintro e w3 ⟨rfl,hb3⟩;have HF3:Hid (FoundZ p m1 m2 m3 m4 x a1 c1 a2 c2 a3 c3 w3):=hF.out.below hb3;have HG3:=iH (Ab hG.out hb3 hgl.out);have HL3:Hid (g<w3.heap.size):=lL hgl.out hb3.size;have HB3:=qTH hb hb3;clear hb3 hF hG hgl hb c0
   cases hh:Fd x with
   | false =>
    have HC:Hid (V=false):=by show _=_;rw [HV.out,he.out.1 (by omega),Bool.true_and,hh];rfl
    clear hh he HV;go_wp2_with fail
    go_ret2
    exact ⟨.pointer none,by rw [HC.out];rfl,HB3,fun h=>absurd (HC.out.symm.trans h) (by decide)⟩
   | true =>
    have HE:Hid ((0<1+1→(Dp x)=true)∧(1<1+1→(Fd x)=true)∧(2<1+1→(Cg x.berths)=true)∧(3<1+1→(Ff x.services)=true)∧(4<1+1→(Bu x)=true)∧(5<1+1→(Dd x.berths x.copies)=true)):=⟨fun _=>he.out.1 (by omega),fun _=>hh,fun h=>absurd h (by omega),fun h=>absurd h (by omega),fun h=>absurd h (by omega),fun h=>absurd h (by omega)⟩;clear hh he;go_wp2_with fail;go_roundw
    case rel=>exact ⟨1+1,by omega,by go_num,HE,HF3,HG3,HL3,HB3⟩
    case measure=>simp [intOf]
  ·have c0:wr.cell? ⟨g,2,none⟩=some (.func (.func 132) #[] #[]):=hG.out 2 _ rfl
   go_wp2_with fail;refine (fC p x.berths a1 c1 lo _ hF.out.1.ins.1 (N1.out.below BrtC.holds hb.out nL)).mono ?_;rintro e w3 ⟨rfl,hb3⟩;have HF3:Hid (FoundZ p m1 m2 m3 m4 x a1 c1 a2 c2 a3 c3 w3):=hF.out.below hb3;have HG3:=iH (Ab hG.out hb3 hgl.out);have HL3:Hid (g<w3.heap.size):=lL hgl.out hb3.size;have HB3:=qTH hb hb3;clear hb3 hF hG hgl hb c0
   cases hh:Cg x.berths with
   | false =>
    have HC:Hid (V=false):=by show _=_;rw [HV.out,he.out.1 (by omega),Bool.true_and,he.out.2.1 (by omega),Bool.true_and,hh];rfl
    clear hh he HV;go_wp2_with fail
    go_ret2
    exact ⟨.pointer none,by rw [HC.out];rfl,HB3,fun h=>absurd (HC.out.symm.trans h) (by decide)⟩
   | true =>
    have HE:Hid ((0<2+1→(Dp x)=true)∧(1<2+1→(Fd x)=true)∧(2<2+1→(Cg x.berths)=true)∧(3<2+1→(Ff x.services)=true)∧(4<2+1→(Bu x)=true)∧(5<2+1→(Dd x.berths x.copies)=true)):=⟨fun _=>he.out.1 (by omega),fun _=>he.out.2.1 (by omega),fun _=>hh,fun h=>absurd h (by omega),fun h=>absurd h (by omega),fun h=>absurd h (by omega)⟩;clear hh he;go_wp2_with fail;go_roundw
    case rel=>exact ⟨2+1,by omega,by go_num,HE,HF3,HG3,HL3,HB3⟩
    case measure=>simp [intOf]
  ·have c0:wr.cell? ⟨g,3,none⟩=some (.func (.func 133) #[] #[]):=hG.out 3 _ rfl
   go_wp2_with fail;refine (oF p x.services a2 c2 lo _ hF.out.1.ins.2.1 (N2.out.below SvcC.holds hb.out nL)).mono ?_;rintro e w3 ⟨rfl,hb3⟩;have HF3:Hid (FoundZ p m1 m2 m3 m4 x a1 c1 a2 c2 a3 c3 w3):=hF.out.below hb3;have HG3:=iH (Ab hG.out hb3 hgl.out);have HL3:Hid (g<w3.heap.size):=lL hgl.out hb3.size;have HB3:=qTH hb hb3;clear hb3 hF hG hgl hb c0
   cases hh:Ff x.services with
   | false =>
    have HC:Hid (V=false):=by show _=_;rw [HV.out,he.out.1 (by omega),Bool.true_and,he.out.2.1 (by omega),Bool.true_and,he.out.2.2.1 (by omega),Bool.true_and,hh];rfl
    clear hh he HV;go_wp2_with fail
    go_ret2
    exact ⟨.pointer none,by rw [HC.out];rfl,HB3,fun h=>absurd (HC.out.symm.trans h) (by decide)⟩
   | true =>
    have HE:Hid ((0<3+1→(Dp x)=true)∧(1<3+1→(Fd x)=true)∧(2<3+1→(Cg x.berths)=true)∧(3<3+1→(Ff x.services)=true)∧(4<3+1→(Bu x)=true)∧(5<3+1→(Dd x.berths x.copies)=true)):=⟨fun _=>he.out.1 (by omega),fun _=>he.out.2.1 (by omega),fun _=>he.out.2.2.1 (by omega),fun _=>hh,fun h=>absurd h (by omega),fun h=>absurd h (by omega)⟩;clear hh he;go_wp2_with fail;go_roundw
    case rel=>exact ⟨3+1,by omega,by go_num,HE,HF3,HG3,HL3,HB3⟩
    case measure=>simp [intOf]
  ·have c0:wr.cell? ⟨g,4,none⟩=some (.func (.func 134) #[] #[]):=hG.out 4 _ rfl
   go_wp2_with fail;refine (dV p x a3 c3 m1 m2 lo _ hF.out.1.ins.2.2 (hF.out.1.1 4 _ rfl) (hF.out.1.1 5 _ rfl) hF.out.1.2.2.1 hF.out.1.2.2.2.1 (N3.out.below CpyC.holds hb.out nL) l3).mono ?_;rintro e w3 ⟨rfl,hb3⟩;have HF3:Hid (FoundZ p m1 m2 m3 m4 x a1 c1 a2 c2 a3 c3 w3):=hF.out.below hb3;have HG3:=iH (Ab hG.out hb3 hgl.out);have HL3:Hid (g<w3.heap.size):=lL hgl.out hb3.size;have HB3:=qTH hb hb3;clear hb3 hF hG hgl hb c0
   cases hh:Bu x with
   | false =>
    have HC:Hid (V=false):=by show _=_;rw [HV.out,he.out.1 (by omega),Bool.true_and,he.out.2.1 (by omega),Bool.true_and,he.out.2.2.1 (by omega),Bool.true_and,he.out.2.2.2.1 (by omega),Bool.true_and,hh];rfl
    clear hh he HV;go_wp2_with fail
    go_ret2
    exact ⟨.pointer none,by rw [HC.out];rfl,HB3,fun h=>absurd (HC.out.symm.trans h) (by decide)⟩
   | true =>
    have HE:Hid ((0<4+1→(Dp x)=true)∧(1<4+1→(Fd x)=true)∧(2<4+1→(Cg x.berths)=true)∧(3<4+1→(Ff x.services)=true)∧(4<4+1→(Bu x)=true)∧(5<4+1→(Dd x.berths x.copies)=true)):=⟨fun _=>he.out.1 (by omega),fun _=>he.out.2.1 (by omega),fun _=>he.out.2.2.1 (by omega),fun _=>he.out.2.2.2.1 (by omega),fun _=>hh,fun h=>absurd h (by omega)⟩;clear hh he;go_wp2_with fail;go_roundw
    case rel=>exact ⟨4+1,by omega,by go_num,HE,HF3,HG3,HL3,HB3⟩
    case measure=>simp [intOf]
  ·have c0:wr.cell? ⟨g,5,none⟩=some (.func (.func 135) #[] #[]):=hG.out 5 _ rfl
   go_wp2_with fail;refine (lD p x a1 c1 a2 c2 a3 c3 lo _ hF.out.1.ins (N1.out.below BrtC.holds hb.out nL) (N3.out.below CpyC.holds hb.out nL) l1 l3).mono ?_;rintro e w3 ⟨rfl,hb3⟩;have HF3:Hid (FoundZ p m1 m2 m3 m4 x a1 c1 a2 c2 a3 c3 w3):=hF.out.below hb3;have HG3:=iH (Ab hG.out hb3 hgl.out);have HL3:Hid (g<w3.heap.size):=lL hgl.out hb3.size;have HB3:=qTH hb hb3;clear hb3 hF hG hgl hb c0
   cases hh:Dd x.berths x.copies with
   | false =>
    have HC:Hid (V=false):=by show _=_;rw [HV.out,he.out.1 (by omega),Bool.true_and,he.out.2.1 (by omega),Bool.true_and,he.out.2.2.1 (by omega),Bool.true_and,he.out.2.2.2.1 (by omega),Bool.true_and,he.out.2.2.2.2.1 (by omega),Bool.true_and,hh];skip
    clear hh he HV;go_wp2_with fail
    go_ret2
    exact ⟨.pointer none,by rw [HC.out];rfl,HB3,fun h=>absurd (HC.out.symm.trans h) (by decide)⟩
   | true =>
    have HE:Hid ((0<5+1→(Dp x)=true)∧(1<5+1→(Fd x)=true)∧(2<5+1→(Cg x.berths)=true)∧(3<5+1→(Ff x.services)=true)∧(4<5+1→(Bu x)=true)∧(5<5+1→(Dd x.berths x.copies)=true)):=⟨fun _=>he.out.1 (by omega),fun _=>he.out.2.1 (by omega),fun _=>he.out.2.2.1 (by omega),fun _=>he.out.2.2.2.1 (by omega),fun _=>he.out.2.2.2.2.1 (by omega),fun _=>hh⟩;clear hh he;go_wp2_with fail;go_roundw
    case rel=>exact ⟨5+1,by omega,by go_num,HE,HF3,HG3,HL3,HB3⟩
    case measure=>simp [intOf]
  ·have HC:Hid (V=true):=by show _=_;rw [HV.out,he.out.1 (by omega),he.out.2.1 (by omega),he.out.2.2.1 (by omega),he.out.2.2.2.1 (by omega),he.out.2.2.2.2.1 (by omega),he.out.2.2.2.2.2 (by omega)];rfl
   clear he HV;go_wp2_with fail
   go_ret2
   exact ⟨.pointer (some ⟨p,0,none⟩),by rw [HC.out];rfl,hb.out,fun _=>⟨p,m1,m2,m3,m4,rfl,HP,HG4,hF.out⟩⟩
theorem FoundZ.cells {p m1 m2 m3 m4:Nat} {x:Flt} {a1:OA} {c1:Nat} {a2:OA} {c2:Nat} {a3:OA} {c3:Nat} {w:World} (h:FoundZ p m1 m2 m3 m4 x a1 c1 a2 c2 a3 c3 w) {g:Nat} {cs:Array Value} {t:TypeId} (hz:Blk g cs t w) (hp:p≠g) (o:Nat) (vs:List Value):FoundZ p m1 m2 m3 m4 x a1 c1 a2 c2 a3 c3 (w.setCells g o vs):=⟨h.1.cells hz hp o vs,fun j=>(World.frozen?_setCells g vs o w _).trans (h.2 j)⟩
def oZ (x:Flt) (a1:OA) (c1:Nat) (a2:OA) (c2:Nat) (a3:OA) (c3:Nat) (lo:Nat) (cn bn:BA) (W:World) (e:Ending) (w:World):Prop :=
 (e=.returned (.tuple #[.agg Et,.bool false])∧Iq x cn bn=none) ∨
 (∃ p m1 m2 m3 m4 ci bi y b a7 c7 am cm,e=.returned (.tuple #[.agg (Ar p ci bi y a7 c7 b am cm (Au x.copies b.name ci x.copies.length).1 (Au x.copies b.name ci x.copies.length).2.1 (Au x.copies b.name ci x.copies.length).2.2),.bool true])∧Ce x=true∧x.copies[ci]?=some y∧x.berths[bi]?=some b∧Iq x cn bn=some (ci,bi)∧FoundZ p m1 m2 m3 m4 x a1 c1 a2 c2 a3 c3 w∧W.heap.size≤p∧W.heap.size≤m4∧SliceC LikC 2 lo W a7 y.likes∧SliceC StrC 1 lo W am b.marks)
theorem aC (x:Flt) (a1:OA) (c1:Nat) (a2:OA) (c2:Nat) (a3:OA) (c3:Nat) (lo:Nat) (cn bn:BA) (w:World) (n1:SliceC BrtC 6 lo w a1 x.berths) (n2:SliceC SvcC 2 lo w a2 x.services) (n3:SliceC CpyC 12 lo w a3 x.copies)
  (l1:x.berths.length≤1048576) (l2:x.services.length≤1048576) (l3:x.copies.length≤1048576) (hcn:cn.size≤maxLen) (hbn:bn.size≤maxLen) :
  Calls prog 29 #[.agg (ffA x a1 c1 a2 c2 a3 c3),.string cn,.string bn] w fun e w'=>oZ x a1 c1 a2 c2 a3 c3 lo cn bn w e w'∧Below w.heap.size w w':=by
 have N1:=iH n1;have N2:=iH n2;have N3:=iH n3;have hkc:keyOf prog 9 (.string cn)=some (kOf cn):=keyOf_string_mk underlying9 hcn;have hkb:keyOf prog 9 (.string bn)=some (kOf bn):=keyOf_string_mk underlying9 hbn;clear n1 n2 n3 hcn hbn;go_enter func29,ntmps29;go_wp2_with fail;have e2:Blk (w.heap.size+1) #[.pointer none,.int .i64 0,.string ⟨#[]⟩,.string ⟨#[]⟩,.int .i64 0,.int .i64 0,.int .i64 0,.int .i64 0,.string ⟨#[]⟩,.slice none 0 0,.int .i64 0,.string ⟨#[]⟩,.string ⟨#[]⟩,.string ⟨#[]⟩,.int .i64 0,.string ⟨#[]⟩,.string ⟨#[]⟩,.slice none 0 0,.int .i64 0,.int .i64 0,.bool false,.int .i64 0,.int .i64 0,.int .i64 0] 69 ((w.alloc (Obj.cells (ffA x a1 c1 a2 c2 a3 c3) 36)).alloc (Obj.cells #[.pointer none,.int .i64 0,.string ⟨#[]⟩,.string ⟨#[]⟩,.int .i64 0,.int .i64 0,.int .i64 0,.int .i64 0,.string ⟨#[]⟩,.slice none 0 0,.int .i64 0,.string ⟨#[]⟩,.string ⟨#[]⟩,.string ⟨#[]⟩,.int .i64 0,.string ⟨#[]⟩,.string ⟨#[]⟩,.slice none 0 0,.int .i64 0,.int .i64 0,.bool false,.int .i64 0,.int .i64 0,.int .i64 0] 69)):=by
  have h:=Blk.alloc (w.alloc (Obj.cells (ffA x a1 c1 a2 c2 a3 c3) 36)) #[.pointer none,.int .i64 0,.string ⟨#[]⟩,.string ⟨#[]⟩,.int .i64 0,.int .i64 0,.int .i64 0,.int .i64 0,.string ⟨#[]⟩,.slice none 0 0,.int .i64 0,.string ⟨#[]⟩,.string ⟨#[]⟩,.string ⟨#[]⟩,.int .i64 0,.string ⟨#[]⟩,.string ⟨#[]⟩,.slice none 0 0,.int .i64 0,.int .i64 0,.bool false,.int .i64 0,.int .i64 0,.int .i64 0] 69;simpa using h
 have e3:Below w.heap.size w ((w.alloc (Obj.cells (ffA x a1 c1 a2 c2 a3 c3) 36)).alloc (Obj.cells #[.pointer none,.int .i64 0,.string ⟨#[]⟩,.string ⟨#[]⟩,.int .i64 0,.int .i64 0,.int .i64 0,.int .i64 0,.string ⟨#[]⟩,.slice none 0 0,.int .i64 0,.string ⟨#[]⟩,.string ⟨#[]⟩,.string ⟨#[]⟩,.int .i64 0,.string ⟨#[]⟩,.string ⟨#[]⟩,.slice none 0 0,.int .i64 0,.int .i64 0,.bool false,.int .i64 0,.int .i64 0,.int .i64 0] 69)):=((Below.refl _ w).alloc nL _).alloc (by simp) _;have HZ0:=iH e2;have HB0:=iH e3;clear e2 e3;generalize (w.alloc (Obj.cells (ffA x a1 c1 a2 c2 a3 c3) 36)).alloc (Obj.cells #[.pointer none,.int .i64 0,.string ⟨#[]⟩,.string ⟨#[]⟩,.int .i64 0,.int .i64 0,.int .i64 0,.int .i64 0,.string ⟨#[]⟩,.slice none 0 0,.int .i64 0,.string ⟨#[]⟩,.string ⟨#[]⟩,.string ⟨#[]⟩,.int .i64 0,.string ⟨#[]⟩,.string ⟨#[]⟩,.slice none 0 0,.int .i64 0,.int .i64 0,.bool false,.int .i64 0,.int .i64 0,.int .i64 0] 69)=w0 at *;refine (Tw x a1 c1 a2 c2 a3 c3 lo _ (N1.out.below BrtC.holds HB0 nL) (N2.out.below SvcC.holds HB0 nL) (N3.out.below CpyC.holds HB0 nL) l1 l2 l3).mono ?_;rintro e w1 ⟨v,rfl,hb1,hfd⟩;have HB1:=qTH HB0 hb1;have HZ1:=qBk HZ0 hb1;have HS0:Hid (w.heap.size≤w0.heap.size):=HB0.out.size;have HS2:Hid (w.heap.size+1<w0.heap.size):=HZ0.out.lt;clear hb1 HB0 HZ0;have HT:=iH HZ1.out.there;have HR10:=iH (World.rangeAt_setCells_same w1 (w.heap.size+1) 0 [.pointer none,.int .i64 0,.string ⟨#[]⟩,.string ⟨#[]⟩,.int .i64 0,.int .i64 0,.int .i64 0,.int .i64 0,.string ⟨#[]⟩,.slice none 0 0,.int .i64 0,.string ⟨#[]⟩,.string ⟨#[]⟩,.string ⟨#[]⟩,.int .i64 0,.string ⟨#[]⟩,.string ⟨#[]⟩,.slice none 0 0,.int .i64 0,.int .i64 0,.bool false,.int .i64 0,.int .i64 0,.int .i64 0] HZ1.out.there);have HB10:Hid (Below w.heap.size w (w1.setCells (w.heap.size+1) 0 [.pointer none,.int .i64 0,.string ⟨#[]⟩,.string ⟨#[]⟩,.int .i64 0,.int .i64 0,.int .i64 0,.int .i64 0,.string ⟨#[]⟩,.slice none 0 0,.int .i64 0,.string ⟨#[]⟩,.string ⟨#[]⟩,.string ⟨#[]⟩,.int .i64 0,.string ⟨#[]⟩,.string ⟨#[]⟩,.slice none 0 0,.int .i64 0,.int .i64 0,.bool false,.int .i64 0,.int .i64 0,.int .i64 0])):=Ad (by omega) _ _ _ HB1;obtain ⟨w10,HW10⟩:∃ w10,Hid (w10=w1.setCells (w.heap.size+1) 0 [.pointer none,.int .i64 0,.string ⟨#[]⟩,.string ⟨#[]⟩,.int .i64 0,.int .i64 0,.int .i64 0,.int .i64 0,.string ⟨#[]⟩,.slice none 0 0,.int .i64 0,.string ⟨#[]⟩,.string ⟨#[]⟩,.string ⟨#[]⟩,.int .i64 0,.string ⟨#[]⟩,.string ⟨#[]⟩,.slice none 0 0,.int .i64 0,.int .i64 0,.bool false,.int .i64 0,.int .i64 0,.int .i64 0]):=⟨_,rfl⟩;rw [← HW10.out] at HR10 HB10
 cases hv:Ce x with
 | false =>
  have HS:=iH (aE (cn:=cn) (bn:=bn) hv);clear hfd hv;go_wp2_with (first | (refine Ag rfl 69 _ _ rfl (w.heap.size+1) 0 #[.pointer none,.int .i64 0,.string ⟨#[]⟩,.string ⟨#[]⟩,.int .i64 0,.int .i64 0,.int .i64 0,.int .i64 0,.string ⟨#[]⟩,.slice none 0 0,.int .i64 0,.string ⟨#[]⟩,.string ⟨#[]⟩,.string ⟨#[]⟩,.int .i64 0,.string ⟨#[]⟩,.string ⟨#[]⟩,.slice none 0 0,.int .i64 0,.int .i64 0,.bool false,.int .i64 0,.int .i64 0,.int .i64 0] rfl rfl HT Cy (by simp [Value.oneCell']) w10 HW10 ?_));exact bodyPost_ret (An rfl _ _ (w.heap.size+1) [.pointer none,.int .i64 0,.string ⟨#[]⟩,.string ⟨#[]⟩,.int .i64 0,.int .i64 0,.int .i64 0,.int .i64 0,.string ⟨#[]⟩,.slice none 0 0,.int .i64 0,.string ⟨#[]⟩,.string ⟨#[]⟩,.string ⟨#[]⟩,.int .i64 0,.string ⟨#[]⟩,.string ⟨#[]⟩,.slice none 0 0,.int .i64 0,.int .i64 0,.bool false,.int .i64 0,.int .i64 0,.int .i64 0] _ rfl HR10 underlying69 rfl Cy) rfl ⟨Or.inl ⟨rfl,HS⟩,HB10⟩
 | true =>
  obtain ⟨p,m1,m2,m3,m4,rfl,hp,hm4,hF⟩:=hfd hv;have HF:=iH hF;have HV:=iH hv;have HP:Hid (w.heap.size≤p):=lT HS0 hp;have HP2:Hid (w.heap.size+1<p):=lL HS2 hp;have HM4:Hid (w.heap.size≤m4):=lT HS0 hm4;have O3:=iH HF.out.1.2.2.2.2.1;have O1:=iH HF.out.1.2.2.1;have p4:w1.cell? ⟨p,4,none⟩=some (.map (some m1)):=HF.out.1.1 4 _ rfl;have p6:w1.cell? ⟨p,6,none⟩=some (.map (some m3)):=HF.out.1.1 6 _ rfl;have HC1:Hid (has (Ai (cpN x) x.copies.length) (kOf cn)=(Ao (cpN x) cn x.copies.length).isSome):=Fr _ _ _;have HC2:Hid ((Ai (cpN x) x.copies.length).atKey (kOf cn) (.lit (.int .i64 0))=.lit (.int .i64 (((Ao (cpN x) cn x.copies.length).getD 0:Nat):Int))):=Gl _ _ _;have HD1:Hid (has (Ai (brN x) x.berths.length) (kOf bn)=(Ao (brN x) bn x.berths.length).isSome):=Fr _ _ _;have HD2:Hid ((Ai (brN x) x.berths.length).atKey (kOf bn) (.lit (.int .i64 0))=.lit (.int .i64 (((Ao (brN x) bn x.berths.length).getD 0:Nat):Int))):=Gl _ _ _;obtain ⟨_,_,_,hcN,_,_⟩:=Cf HV;obtain ⟨_,hbN,_,_⟩:=Bq HV;clear hF hfd hv hp hm4;have hc1:=HC1.out;have hc2:=HC2.out;have hb1:=HD1.out;have hb2:=HD2.out;clear HC1 HC2 HD1 HD2;generalize Ai (cpN x) x.copies.length=D3 at *;generalize Ai (brN x) x.berths.length=D1 at *
  cases hci:Ao (cpN x) cn x.copies.length with
  | none =>
   have HS:=iH (bJ (bn:=bn) hci);rw [hci] at hc1 hc2;simp only [Option.isSome_none,Option.getD_none] at hc1 hc2;clear hci hcN hbN;go_wp2_with (first | (at_lookup;refine wpList_lookup_own_ok_int _ rfl _ _ 77 rfl 9 3 .i64 Cq underlying77 underlying3 (Cu _) m3 _ _ rfl O3 _ _ rfl hkc ?_;intro c hcc _;obtain rfl:=Ij (hcc.symm.trans hc2);rw [hc1]) | (at_lookup;refine wpList_lookup_own_ok_int _ rfl _ _ 77 rfl 9 3 .i64 Cq underlying77 underlying3 (Cu _) m1 _ _ rfl O1 _ _ rfl hkb ?_;intro c' hcc' _;obtain rfl:=Ij (hcc'.symm.trans hb2);rw [hb1]) | (refine Ag rfl 69 _ _ rfl (w.heap.size+1) 0 #[.pointer none,.int .i64 0,.string ⟨#[]⟩,.string ⟨#[]⟩,.int .i64 0,.int .i64 0,.int .i64 0,.int .i64 0,.string ⟨#[]⟩,.slice none 0 0,.int .i64 0,.string ⟨#[]⟩,.string ⟨#[]⟩,.string ⟨#[]⟩,.int .i64 0,.string ⟨#[]⟩,.string ⟨#[]⟩,.slice none 0 0,.int .i64 0,.int .i64 0,.bool false,.int .i64 0,.int .i64 0,.int .i64 0] rfl rfl HT Cy (by simp [Value.oneCell']) w10 HW10 ?_));exact bodyPost_ret (An rfl _ _ (w.heap.size+1) [.pointer none,.int .i64 0,.string ⟨#[]⟩,.string ⟨#[]⟩,.int .i64 0,.int .i64 0,.int .i64 0,.int .i64 0,.string ⟨#[]⟩,.slice none 0 0,.int .i64 0,.string ⟨#[]⟩,.string ⟨#[]⟩,.string ⟨#[]⟩,.int .i64 0,.string ⟨#[]⟩,.string ⟨#[]⟩,.slice none 0 0,.int .i64 0,.int .i64 0,.bool false,.int .i64 0,.int .i64 0,.int .i64 0] _ rfl HR10 underlying69 rfl Cy) rfl ⟨Or.inl ⟨rfl,HS⟩,HB10⟩
  | some ci =>
   obtain ⟨_,y,hy,hyn⟩:=Jf hcN hci;clear hyn
   cases hbi:Ao (brN x) bn x.berths.length with
   | none =>
    have HS:=iH (cK (cn:=cn) hbi);rw [hci] at hc1 hc2;rw [hbi] at hb1 hb2;simp only [Option.isSome_none,Option.getD_none,Option.isSome_some,Option.getD_some] at hc1 hc2 hb1 hb2;clear hci hbi hcN hbN hy;go_wp2_with (first | (at_lookup;refine wpList_lookup_own_ok_int _ rfl _ _ 77 rfl 9 3 .i64 Cq underlying77 underlying3 (Cu _) m3 _ _ rfl O3 _ _ rfl hkc ?_;intro c hcc _;obtain rfl:=Ij (hcc.symm.trans hc2);rw [hc1]) | (at_lookup;refine wpList_lookup_own_ok_int _ rfl _ _ 77 rfl 9 3 .i64 Cq underlying77 underlying3 (Cu _) m1 _ _ rfl O1 _ _ rfl hkb ?_;intro c' hcc' _;obtain rfl:=Ij (hcc'.symm.trans hb2);rw [hb1]) | (refine Ag rfl 69 _ _ rfl (w.heap.size+1) 0 #[.pointer none,.int .i64 0,.string ⟨#[]⟩,.string ⟨#[]⟩,.int .i64 0,.int .i64 0,.int .i64 0,.int .i64 0,.string ⟨#[]⟩,.slice none 0 0,.int .i64 0,.string ⟨#[]⟩,.string ⟨#[]⟩,.string ⟨#[]⟩,.int .i64 0,.string ⟨#[]⟩,.string ⟨#[]⟩,.slice none 0 0,.int .i64 0,.int .i64 0,.bool false,.int .i64 0,.int .i64 0,.int .i64 0] rfl rfl HT Cy (by simp [Value.oneCell']) w10 HW10 ?_));exact bodyPost_ret (An rfl _ _ (w.heap.size+1) [.pointer none,.int .i64 0,.string ⟨#[]⟩,.string ⟨#[]⟩,.int .i64 0,.int .i64 0,.int .i64 0,.int .i64 0,.string ⟨#[]⟩,.slice none 0 0,.int .i64 0,.string ⟨#[]⟩,.string ⟨#[]⟩,.string ⟨#[]⟩,.int .i64 0,.string ⟨#[]⟩,.string ⟨#[]⟩,.slice none 0 0,.int .i64 0,.int .i64 0,.bool false,.int .i64 0,.int .i64 0,.int .i64 0] _ rfl HR10 underlying69 rfl Cy) rfl ⟨Or.inl ⟨rfl,HS⟩,HB10⟩
   | some bi =>
    obtain ⟨_,b,hb,hbn⟩:=Vt hbN hbi;clear hbn;have HS:=iH (bT HV hci hbi);rw [hci] at hc1 hc2;rw [hbi] at hb1 hb2;simp only [Option.isSome_some,Option.getD_some] at hc1 hc2 hb1 hb2;have HY:=iH hy;have HBY:=iH hb;clear hci hbi hcN hbN hy hb HT HR10 HB10 HW10;go_wp2_with (first | (at_lookup;refine wpList_lookup_own_ok_int _ rfl _ _ 77 rfl 9 3 .i64 Cq underlying77 underlying3 (Cu _) m3 _ _ rfl O3 _ _ rfl hkc ?_;intro c hcc _;obtain rfl:=Ij (hcc.symm.trans hc2);rw [hc1]) | (at_lookup;refine wpList_lookup_own_ok_int _ rfl _ _ 77 rfl 9 3 .i64 Cq underlying77 underlying3 (Cu _) m1 _ _ rfl O1 _ _ rfl hkb ?_;intro c' hcc' _;obtain rfl:=Ij (hcc'.symm.trans hb2);rw [hb1]));refine (Ui p x a1 c1 a2 c2 a3 c3 lo ci bi y b _ HF.out.1.ins (N1.out.below BrtC.holds HB1 nL) (N3.out.below CpyC.holds HB1 nL) l3 HY HBY).mono ?_;rintro e w2 ⟨a7,c7,am,cm,rfl,_,_,⟨cb,co,bb,bo,ea,eb,hs7,hsm⟩,hb2'⟩;have S7:Hid (SliceC LikC 2 lo w a7 y.likes):=by
     obtain ⟨b',o',e,_,hl,hc⟩:=N3.out.at HY;rw [ea] at e;cases e
     obtain ⟨a7',c7',_,_,_,_,_,_,_,q7,_,_,_,_,_,_,_,_,_,_,n7⟩:=hc;rw [HB1.out.cell (p:=⟨cb,co+ci*12+7,none⟩) hl] at hs7;have hq:=(show w.cell? ⟨cb,co+ci*12+7,none⟩=_ from q7).symm.trans hs7;simp only [Option.some.injEq,Value.slice.injEq] at hq;obtain ⟨rfl,_,_⟩:=hq;exact n7
    have SM:Hid (SliceC StrC 1 lo w am b.marks):=by
     obtain ⟨b',o',e,_,hl,hc⟩:=N1.out.at HBY;rw [eb] at e;cases e
     obtain ⟨am',cm',_,_,r2,_,_,_,_,_,nm⟩:=hc;rw [HB1.out.cell (p:=⟨bb,bo+bi*6+2,none⟩) hl] at hsm;have hq:=(show w.cell? ⟨bb,bo+bi*6+2,none⟩=_ from r2).symm.trans hsm;simp only [Option.some.injEq,Value.slice.injEq] at hq;obtain ⟨rfl,_,_⟩:=hq;exact nm
    have HB2:=iH (HB1.out.trans (hb2'.mono HB1.out.size));have HZ2:=iH (HZ1.out.below hb2' HZ1.out.lt);have HF2:=iH (HF.out.below hb2');clear hs7 hsm ea eb hb2' p4 p6 hc1 hc2 hb1 hb2;generalize hU:Au x.copies b.name ci x.copies.length=V;have HU:=iH hU;clear hU;have HT2:=iH HZ2.out.there;have hR5:=World.rangeAt_setCells_same w2 (w.heap.size+1) 0 (Ar p ci bi y a7 c7 b am cm V.1 V.2.1 V.2.2).toList HZ2.out.there;have hB5:Below w.heap.size w (w2.setCells (w.heap.size+1) 0 (Ar p ci bi y a7 c7 b am cm V.1 V.2.1 V.2.2).toList):=Ad (by omega) _ _ _ HB2;have hF5:=HF2.out.cells HZ2 (by have:=HP2.out;omega) 0 (Ar p ci bi y a7 c7 b am cm V.1 V.2.1 V.2.2).toList;obtain ⟨w5,HW5⟩:∃ w5,Hid (w5=w2.setCells (w.heap.size+1) 0 (Ar p ci bi y a7 c7 b am cm V.1 V.2.1 V.2.2).toList):=⟨_,rfl⟩;rw [← HW5.out] at hR5 hB5 hF5;have HR5:=iH hR5;have HB5:=iH hB5;have HF5:=iH hF5;clear hR5 hB5 hF5;go_wp2_with (first | (refine Ag rfl 69 _ _ rfl (w.heap.size+1) 0 (Ar p ci bi y a7 c7 b am cm V.1 V.2.1 V.2.2) rfl rfl HT2 Cy (by simp [Value.oneCell']) w5 HW5 ?_));refine bodyPost_ret (An rfl _ _ (w.heap.size+1) (Ar p ci bi y a7 c7 b am cm V.1 V.2.1 V.2.2).toList _ rfl HR5 underlying69 rfl Cy) rfl ⟨Or.inr ⟨p,m1,m2,m3,m4,ci,bi,y,b,a7,c7,am,cm,?_,HV,HY,HBY,HS,HF5,HP,HM4,S7,SM⟩,HB5⟩;rw [HU.out];rfl
end Go.Proofs.YtjoeojhdkoidbaaGreat
