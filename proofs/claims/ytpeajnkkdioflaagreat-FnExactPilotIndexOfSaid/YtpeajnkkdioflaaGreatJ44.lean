import Derived.Test.YtpeajnkkdioflaaGreatIxi
import Derived.Test.YtpeajnkkdioflaaGreatLed
import Derived.Test.YtpeajnkkdioflaaGreatJ40
import Derived.Laws.OwnMore
set_option maxHeartbeats 8000000
set_option maxRecDepth 100000
namespace Go.Proofs.YtpeajnkkdioflaaGreat
open Go.RowKit Go.WideMaps Go.Maps
def Found (p m1 m2 m3 m4:Nat) (x:Flt) (a1:Option Addr) (c1:Nat) (a2:Option Addr) (c2:Nat) (a3:Option Addr) (c3:Nat) (w:World):Prop :=
 w.rangeAt p 0 [.bool x.pack,.slice a1 x.berths.length c1,.slice a2 x.services.length c2,.slice a3 x.copies.length c3,.map (some m1),.map (some m2),.map (some m3),.map (some m4)]∧p<w.heap.size∧w.ownsMap Tryz.prog 9 (plainElem Tryz.prog 3) m1 x.berths.length (Af (x.berths.map (·.name)) x.berths.length)∧w.ownsMap Tryz.prog 9 (plainElem Tryz.prog 3) m2 x.services.length (Af (x.services.map (·.name)) x.services.length)∧w.ownsMap Tryz.prog 9 (plainElem Tryz.prog 3) m3 x.copies.length (Af (x.copies.map (·.name)) x.copies.length)∧w.heap[m4]?=some (Obj.map #[] 0)
theorem Found.below {p m1 m2 m3 m4:Nat} {x:Flt} {a1:Option Addr} {c1:Nat} {a2:Option Addr} {c2:Nat} {a3:Option Addr} {c3:Nat} {w w':World} (h:Found p m1 m2 m3 m4 x a1 c1 a2 c2 a3 c3 w) (hb:Below w.heap.size w w'):Found p m1 m2 m3 m4 x a1 c1 a2 c2 a3 c3 w' :=
 ⟨Ac h.1 hb h.2.1,Nat.lt_of_lt_of_le h.2.1 hb.size,Ak h.2.2.1 hb h.2.2.1.lt,Ak h.2.2.2.1 hb h.2.2.2.1.lt,Ak h.2.2.2.2.1 hb h.2.2.2.2.1.lt,(hb.block m4 (Array.getElem?_eq_some_iff.1 h.2.2.2.2.2).1).trans h.2.2.2.2.2⟩
theorem Found.ins {p m1 m2 m3 m4:Nat} {x:Flt} {a1:Option Addr} {c1:Nat} {a2:Option Addr} {c2:Nat} {a3:Option Addr} {c3:Nat} {w:World} (h:Found p m1 m2 m3 m4 x a1 c1 a2 c2 a3 c3 w):FndIn p x a1 c1 a2 c2 a3 c3 w :=
 ⟨h.1 1 _ rfl,h.1 2 _ rfl,h.1 3 _ rfl⟩
theorem Py (x:Flt) (a1:Option Addr) (c1:Nat) (a2:Option Addr) (c2:Nat) (a3:Option Addr) (c3:Nat) (lo:Nat) (w:World) (n1:SliceC BrtC 6 lo w a1 x.berths) (n2:SliceC SvcC 2 lo w a2 x.services) (n3:SliceC CpyC 12 lo w a3 x.copies)
  (l1:x.berths.length≤1048576) (l2:x.services.length≤1048576) (l3:x.copies.length≤1048576) :
  Calls Tryz.prog 56 #[.agg #[.bool x.pack,.slice a1 x.berths.length c1,.slice a2 x.services.length c2,.slice a3 x.copies.length c3]] w fun e w'=>∃ v,e=.returned (.tuple #[v,.bool (Ce x)])∧Below w.heap.size w w' ∧
   (Ce x=true→∃ p m1 m2 m3 m4,v=.pointer (some ⟨p,0,none⟩)∧w.heap.size≤p∧w.heap.size≤m4∧Found p m1 m2 m3 m4 x a1 c1 a2 c2 a3 c3 w'):=by
 have N1:Hid (SliceC BrtC 6 lo w a1 x.berths):=n1;have N2:Hid (SliceC SvcC 2 lo w a2 x.services):=n2;have N3:Hid (SliceC CpyC 12 lo w a3 x.copies):=n3;have HV:Hid (Ce x=(Cq x && (Dt x && (Bq x.berths && (Dq x.services && (Bo x && Ck x.berths x.copies)))))):=rfl;clear n1 n2 n3;generalize Ce x=V at *;go_enter Tryz.func56,Tryz.ntmps56;go_wp2_with fail;refine (fG x a1 c1 a2 c2 a3 c3 lo _ (N1.out.below BrtC.holds (B:=w.heap.size) (by go_grown) nL) (N2.out.below SvcC.holds (B:=w.heap.size) (by go_grown) nL) (N3.out.below CpyC.holds (B:=w.heap.size) (by go_grown) nL) l1 l2 l3).mono ?_;rintro e w1 ⟨p,m1,m2,m3,m4,rfl,hp,hrg,ho1,ho2,ho3,hg4,hm4,hb1⟩;have HB1:Hid (Below w.heap.size w w1):=(show Below w.heap.size w _ by go_grown).trans (hb1.mono (by simp));have HP:Hid (w.heap.size≤p):=Nat.le_trans (show w.heap.size≤_ by simp) hp;have HG4:Hid (w.heap.size≤m4):=Nat.le_trans (show w.heap.size≤_ by simp) hg4;have HF1:Hid (Found p m1 m2 m3 m4 x a1 c1 a2 c2 a3 c3 w1):=⟨hrg,block_lt_of_cell (hrg 1 _ rfl),ho1,ho2,ho3,hm4⟩;clear hrg ho1 ho2 ho3 hb1 hp hg4 hm4;go_wp2_with fail;refine (Yu _).mono ?_;rintro e w2 ⟨g,rfl,hg,hgl,hb2⟩;have HB2:Hid (Below w.heap.size w w2):=HB1.out.trans (hb2.mono HB1.out.size);have HF2:Hid (Found p m1 m2 m3 m4 x a1 c1 a2 c2 a3 c3 w2):=HF1.out.below hb2;have HG2:Hid (w2.rangeAt g 0 [.func (.func 104) #[] #[],.func (.func 105) #[] #[],.func (.func 106) #[] #[],.func (.func 107) #[] #[],.func (.func 108) #[] #[],.func (.func 109) #[] #[]]):=hg;have HGL:Hid (g<w2.heap.size):=hgl;clear hg hgl hb2 HB1 HF1;go_wp2_with fail;go_loopw [11] (fun i wr=>∃ k:Nat,k≤6∧i=.int .i64 k∧Hid ((0<k→(Cq x)=true)∧(1<k→(Dt x)=true)∧(2<k→(Bq x.berths)=true)∧(3<k→(Dq x.services)=true)∧(4<k→(Bo x)=true)∧(5<k→(Ck x.berths x.copies)=true))∧Hid (Found p m1 m2 m3 m4 x a1 c1 a2 c2 a3 c3 wr)∧Hid (wr.rangeAt g 0 [.func (.func 104) #[] #[],.func (.func 105) #[] #[],.func (.func 106) #[] #[],.func (.func 107) #[] #[],.func (.func 108) #[] #[],.func (.func 109) #[] #[]])∧Hid (g<wr.heap.size)∧Hid (Below w.heap.size w wr)) (fun i _=>6 - (intOf i).toNat)
 case atStart=>exact ⟨0,by omega,rfl,⟨fun h=>absurd h (by omega),fun h=>absurd h (by omega),fun h=>absurd h (by omega),fun h=>absurd h (by omega),fun h=>absurd h (by omega),fun h=>absurd h (by omega)⟩,HF2,HG2,HGL,HB2⟩
 case round =>
  clear HF2 HG2 HGL HB2;obtain ⟨k,hk,rfl,he,hF,hG,hgl,hb⟩:=hrel;have hk':k=0∨k=1∨k=2∨k=3∨k=4∨k=5∨k=6:=by omega
  rcases hk' with rfl | rfl | rfl | rfl | rfl | rfl | rfl
  ·have c0:wr.cell? ⟨g,0,none⟩=some (.func (.func 104) #[] #[]):=hG.out 0 _ rfl
   go_wp2_with fail;refine (jG p x a1 c1 a2 c2 a3 c3 _ hF.out.ins).mono ?_;rintro e w3 ⟨rfl,hb3⟩;have HF3:Hid (Found p m1 m2 m3 m4 x a1 c1 a2 c2 a3 c3 w3):=hF.out.below hb3;have HG3:Hid (w3.rangeAt g 0 [.func (.func 104) #[] #[],.func (.func 105) #[] #[],.func (.func 106) #[] #[],.func (.func 107) #[] #[],.func (.func 108) #[] #[],.func (.func 109) #[] #[]]):=Ac hG.out hb3 hgl.out;have HL3:Hid (g<w3.heap.size):=Nat.lt_of_lt_of_le hgl.out hb3.size;have HB3:Hid (Below w.heap.size w w3):=hb.out.trans (hb3.mono hb.out.size);clear hb3 hF hG hgl hb c0
   cases hh:Cq x with
   | false =>
    have HC:Hid (V=false):=by show _=_;rw [HV.out,hh];rfl
    clear hh he HV;go_wp2_with fail
    go_ret2
    exact ⟨.pointer none,by rw [HC.out];rfl,HB3.out,fun h=>absurd (HC.out.symm.trans h) (by decide)⟩
   | true =>
    have HE:Hid ((0<0+1→(Cq x)=true)∧(1<0+1→(Dt x)=true)∧(2<0+1→(Bq x.berths)=true)∧(3<0+1→(Dq x.services)=true)∧(4<0+1→(Bo x)=true)∧(5<0+1→(Ck x.berths x.copies)=true)):=⟨fun _=>hh,fun h=>absurd h (by omega),fun h=>absurd h (by omega),fun h=>absurd h (by omega),fun h=>absurd h (by omega),fun h=>absurd h (by omega)⟩;clear hh he;go_wp2_with fail;go_roundw
    case rel=>exact ⟨0+1,by omega,by go_num,HE,HF3,HG3,HL3,HB3⟩
    case measure=>simp [intOf]
  ·have c0:wr.cell? ⟨g,1,none⟩=some (.func (.func 105) #[] #[]):=hG.out 1 _ rfl
   go_wp2_with fail;refine (iG p x a1 c1 a2 c2 a3 c3 lo _ hF.out.ins (N1.out.below BrtC.holds hb.out nL) (N2.out.below SvcC.holds hb.out nL) (N3.out.below CpyC.holds hb.out nL) l1 l2 l3).mono ?_;rintro e w3 ⟨rfl,hb3⟩;have HF3:Hid (Found p m1 m2 m3 m4 x a1 c1 a2 c2 a3 c3 w3):=hF.out.below hb3;have HG3:Hid (w3.rangeAt g 0 [.func (.func 104) #[] #[],.func (.func 105) #[] #[],.func (.func 106) #[] #[],.func (.func 107) #[] #[],.func (.func 108) #[] #[],.func (.func 109) #[] #[]]):=Ac hG.out hb3 hgl.out;have HL3:Hid (g<w3.heap.size):=Nat.lt_of_lt_of_le hgl.out hb3.size;have HB3:Hid (Below w.heap.size w w3):=hb.out.trans (hb3.mono hb.out.size);clear hb3 hF hG hgl hb c0
   cases hh:Dt x with
   | false =>
    have HC:Hid (V=false):=by show _=_;rw [HV.out,he.out.1 (by omega),Bool.true_and,hh];rfl
    clear hh he HV;go_wp2_with fail
    go_ret2
    exact ⟨.pointer none,by rw [HC.out];rfl,HB3.out,fun h=>absurd (HC.out.symm.trans h) (by decide)⟩
   | true =>
    have HE:Hid ((0<1+1→(Cq x)=true)∧(1<1+1→(Dt x)=true)∧(2<1+1→(Bq x.berths)=true)∧(3<1+1→(Dq x.services)=true)∧(4<1+1→(Bo x)=true)∧(5<1+1→(Ck x.berths x.copies)=true)):=⟨fun _=>he.out.1 (by omega),fun _=>hh,fun h=>absurd h (by omega),fun h=>absurd h (by omega),fun h=>absurd h (by omega),fun h=>absurd h (by omega)⟩;clear hh he;go_wp2_with fail;go_roundw
    case rel=>exact ⟨1+1,by omega,by go_num,HE,HF3,HG3,HL3,HB3⟩
    case measure=>simp [intOf]
  ·have c0:wr.cell? ⟨g,2,none⟩=some (.func (.func 106) #[] #[]):=hG.out 2 _ rfl
   go_wp2_with fail;refine (Xz p x.berths a1 c1 lo _ hF.out.ins.1 (N1.out.below BrtC.holds hb.out nL)).mono ?_;rintro e w3 ⟨rfl,hb3⟩;have HF3:Hid (Found p m1 m2 m3 m4 x a1 c1 a2 c2 a3 c3 w3):=hF.out.below hb3;have HG3:Hid (w3.rangeAt g 0 [.func (.func 104) #[] #[],.func (.func 105) #[] #[],.func (.func 106) #[] #[],.func (.func 107) #[] #[],.func (.func 108) #[] #[],.func (.func 109) #[] #[]]):=Ac hG.out hb3 hgl.out;have HL3:Hid (g<w3.heap.size):=Nat.lt_of_lt_of_le hgl.out hb3.size;have HB3:Hid (Below w.heap.size w w3):=hb.out.trans (hb3.mono hb.out.size);clear hb3 hF hG hgl hb c0
   cases hh:Bq x.berths with
   | false =>
    have HC:Hid (V=false):=by show _=_;rw [HV.out,he.out.1 (by omega),Bool.true_and,he.out.2.1 (by omega),Bool.true_and,hh];rfl
    clear hh he HV;go_wp2_with fail
    go_ret2
    exact ⟨.pointer none,by rw [HC.out];rfl,HB3.out,fun h=>absurd (HC.out.symm.trans h) (by decide)⟩
   | true =>
    have HE:Hid ((0<2+1→(Cq x)=true)∧(1<2+1→(Dt x)=true)∧(2<2+1→(Bq x.berths)=true)∧(3<2+1→(Dq x.services)=true)∧(4<2+1→(Bo x)=true)∧(5<2+1→(Ck x.berths x.copies)=true)):=⟨fun _=>he.out.1 (by omega),fun _=>he.out.2.1 (by omega),fun _=>hh,fun h=>absurd h (by omega),fun h=>absurd h (by omega),fun h=>absurd h (by omega)⟩;clear hh he;go_wp2_with fail;go_roundw
    case rel=>exact ⟨2+1,by omega,by go_num,HE,HF3,HG3,HL3,HB3⟩
    case measure=>simp [intOf]
  ·have c0:wr.cell? ⟨g,3,none⟩=some (.func (.func 107) #[] #[]):=hG.out 3 _ rfl
   go_wp2_with fail;refine (eS p x.services a2 c2 lo _ hF.out.ins.2.1 (N2.out.below SvcC.holds hb.out nL)).mono ?_;rintro e w3 ⟨rfl,hb3⟩;have HF3:Hid (Found p m1 m2 m3 m4 x a1 c1 a2 c2 a3 c3 w3):=hF.out.below hb3;have HG3:Hid (w3.rangeAt g 0 [.func (.func 104) #[] #[],.func (.func 105) #[] #[],.func (.func 106) #[] #[],.func (.func 107) #[] #[],.func (.func 108) #[] #[],.func (.func 109) #[] #[]]):=Ac hG.out hb3 hgl.out;have HL3:Hid (g<w3.heap.size):=Nat.lt_of_lt_of_le hgl.out hb3.size;have HB3:Hid (Below w.heap.size w w3):=hb.out.trans (hb3.mono hb.out.size);clear hb3 hF hG hgl hb c0
   cases hh:Dq x.services with
   | false =>
    have HC:Hid (V=false):=by show _=_;rw [HV.out,he.out.1 (by omega),Bool.true_and,he.out.2.1 (by omega),Bool.true_and,he.out.2.2.1 (by omega),Bool.true_and,hh];rfl
    clear hh he HV;go_wp2_with fail
    go_ret2
    exact ⟨.pointer none,by rw [HC.out];rfl,HB3.out,fun h=>absurd (HC.out.symm.trans h) (by decide)⟩
   | true =>
    have HE:Hid ((0<3+1→(Cq x)=true)∧(1<3+1→(Dt x)=true)∧(2<3+1→(Bq x.berths)=true)∧(3<3+1→(Dq x.services)=true)∧(4<3+1→(Bo x)=true)∧(5<3+1→(Ck x.berths x.copies)=true)):=⟨fun _=>he.out.1 (by omega),fun _=>he.out.2.1 (by omega),fun _=>he.out.2.2.1 (by omega),fun _=>hh,fun h=>absurd h (by omega),fun h=>absurd h (by omega)⟩;clear hh he;go_wp2_with fail;go_roundw
    case rel=>exact ⟨3+1,by omega,by go_num,HE,HF3,HG3,HL3,HB3⟩
    case measure=>simp [intOf]
  ·have c0:wr.cell? ⟨g,4,none⟩=some (.func (.func 108) #[] #[]):=hG.out 4 _ rfl
   go_wp2_with fail;refine (Yd p x a3 c3 m1 m2 lo _ hF.out.ins.2.2 (hF.out.1 4 _ rfl) (hF.out.1 5 _ rfl) hF.out.2.2.1 hF.out.2.2.2.1 (N3.out.below CpyC.holds hb.out nL) l3).mono ?_;rintro e w3 ⟨rfl,hb3⟩;have HF3:Hid (Found p m1 m2 m3 m4 x a1 c1 a2 c2 a3 c3 w3):=hF.out.below hb3;have HG3:Hid (w3.rangeAt g 0 [.func (.func 104) #[] #[],.func (.func 105) #[] #[],.func (.func 106) #[] #[],.func (.func 107) #[] #[],.func (.func 108) #[] #[],.func (.func 109) #[] #[]]):=Ac hG.out hb3 hgl.out;have HL3:Hid (g<w3.heap.size):=Nat.lt_of_lt_of_le hgl.out hb3.size;have HB3:Hid (Below w.heap.size w w3):=hb.out.trans (hb3.mono hb.out.size);clear hb3 hF hG hgl hb c0
   cases hh:Bo x with
   | false =>
    have HC:Hid (V=false):=by show _=_;rw [HV.out,he.out.1 (by omega),Bool.true_and,he.out.2.1 (by omega),Bool.true_and,he.out.2.2.1 (by omega),Bool.true_and,he.out.2.2.2.1 (by omega),Bool.true_and,hh];rfl
    clear hh he HV;go_wp2_with fail
    go_ret2
    exact ⟨.pointer none,by rw [HC.out];rfl,HB3.out,fun h=>absurd (HC.out.symm.trans h) (by decide)⟩
   | true =>
    have HE:Hid ((0<4+1→(Cq x)=true)∧(1<4+1→(Dt x)=true)∧(2<4+1→(Bq x.berths)=true)∧(3<4+1→(Dq x.services)=true)∧(4<4+1→(Bo x)=true)∧(5<4+1→(Ck x.berths x.copies)=true)):=⟨fun _=>he.out.1 (by omega),fun _=>he.out.2.1 (by omega),fun _=>he.out.2.2.1 (by omega),fun _=>he.out.2.2.2.1 (by omega),fun _=>hh,fun h=>absurd h (by omega)⟩;clear hh he;go_wp2_with fail;go_roundw
    case rel=>exact ⟨4+1,by omega,by go_num,HE,HF3,HG3,HL3,HB3⟩
    case measure=>simp [intOf]
  ·have c0:wr.cell? ⟨g,5,none⟩=some (.func (.func 109) #[] #[]):=hG.out 5 _ rfl
   go_wp2_with fail;refine (bJ p x a1 c1 a2 c2 a3 c3 lo _ hF.out.ins (N1.out.below BrtC.holds hb.out nL) (N3.out.below CpyC.holds hb.out nL) l1 l3).mono ?_;rintro e w3 ⟨rfl,hb3⟩;have HF3:Hid (Found p m1 m2 m3 m4 x a1 c1 a2 c2 a3 c3 w3):=hF.out.below hb3;have HG3:Hid (w3.rangeAt g 0 [.func (.func 104) #[] #[],.func (.func 105) #[] #[],.func (.func 106) #[] #[],.func (.func 107) #[] #[],.func (.func 108) #[] #[],.func (.func 109) #[] #[]]):=Ac hG.out hb3 hgl.out;have HL3:Hid (g<w3.heap.size):=Nat.lt_of_lt_of_le hgl.out hb3.size;have HB3:Hid (Below w.heap.size w w3):=hb.out.trans (hb3.mono hb.out.size);clear hb3 hF hG hgl hb c0
   cases hh:Ck x.berths x.copies with
   | false =>
    have HC:Hid (V=false):=by show _=_;rw [HV.out,he.out.1 (by omega),Bool.true_and,he.out.2.1 (by omega),Bool.true_and,he.out.2.2.1 (by omega),Bool.true_and,he.out.2.2.2.1 (by omega),Bool.true_and,he.out.2.2.2.2.1 (by omega),Bool.true_and,hh];skip
    clear hh he HV;go_wp2_with fail
    go_ret2
    exact ⟨.pointer none,by rw [HC.out];rfl,HB3.out,fun h=>absurd (HC.out.symm.trans h) (by decide)⟩
   | true =>
    have HE:Hid ((0<5+1→(Cq x)=true)∧(1<5+1→(Dt x)=true)∧(2<5+1→(Bq x.berths)=true)∧(3<5+1→(Dq x.services)=true)∧(4<5+1→(Bo x)=true)∧(5<5+1→(Ck x.berths x.copies)=true)):=⟨fun _=>he.out.1 (by omega),fun _=>he.out.2.1 (by omega),fun _=>he.out.2.2.1 (by omega),fun _=>he.out.2.2.2.1 (by omega),fun _=>he.out.2.2.2.2.1 (by omega),fun _=>hh⟩;clear hh he;go_wp2_with fail;go_roundw
    case rel=>exact ⟨5+1,by omega,by go_num,HE,HF3,HG3,HL3,HB3⟩
    case measure=>simp [intOf]
  ·have HC:Hid (V=true):=by show _=_;rw [HV.out,he.out.1 (by omega),he.out.2.1 (by omega),he.out.2.2.1 (by omega),he.out.2.2.2.1 (by omega),he.out.2.2.2.2.1 (by omega),he.out.2.2.2.2.2 (by omega)];rfl
   clear he HV;go_wp2_with fail
   go_ret2
   exact ⟨.pointer (some ⟨p,0,none⟩),by rw [HC.out];rfl,hb.out,fun _=>⟨p,m1,m2,m3,m4,rfl,HP.out,HG4.out,hF.out⟩⟩
theorem Px (x:Flt) (a1:Option Addr) (c1:Nat) (a2:Option Addr) (c2:Nat) (a3:Option Addr) (c3:Nat) (lo:Nat) (w:World) (n1:SliceC BrtC 6 lo w a1 x.berths) (n2:SliceC SvcC 2 lo w a2 x.services) (n3:SliceC CpyC 12 lo w a3 x.copies)
  (l1:x.berths.length≤1048576) (l2:x.services.length≤1048576) (l3:x.copies.length≤1048576) :
  Calls Tryz.prog 21 #[.agg #[.bool x.pack,.slice a1 x.berths.length c1,.slice a2 x.services.length c2,.slice a3 x.copies.length c3]] w fun e w'=>e=.returned (.bool (Ce x))∧Below w.heap.size w w':=by
 have N1:Hid (SliceC BrtC 6 lo w a1 x.berths):=n1;have N2:Hid (SliceC SvcC 2 lo w a2 x.services):=n2;have N3:Hid (SliceC CpyC 12 lo w a3 x.copies):=n3;clear n1 n2 n3;go_enter Tryz.func21,Tryz.ntmps21;go_wp2_with fail;refine (Py x a1 c1 a2 c2 a3 c3 lo _ (N1.out.below BrtC.holds (B:=w.heap.size) (by go_grown) nL) (N2.out.below SvcC.holds (B:=w.heap.size) (by go_grown) nL) (N3.out.below CpyC.holds (B:=w.heap.size) (by go_grown) nL) l1 l2 l3).mono ?_;rintro e w1 ⟨v,rfl,hb1,_⟩;have HB1:Hid (Below w.heap.size w w1):=(show Below w.heap.size w _ by go_grown).trans (hb1.mono (by simp));clear hb1;go_wp2_with fail;go_ret;exact ⟨rfl,HB1.out⟩
end Go.Proofs.YtpeajnkkdioflaaGreat
namespace Go.Proofs.YtpeajnkkdioflaaGreat
open Go.RowKit
def fN (x:Flt) (w:World) (e:Ending) (w':World):Bool→Prop
 | true=>gB x w e w'
 | false=>e=.returned (.agg #[.bool false,.slice none 0 0,.slice none 0 0,.slice none 0 0])∧Below w.heap.size w w'
theorem Ni (x:Flt) (a1:Option Addr) (c1:Nat) (a2:Option Addr) (c2:Nat) (a3:Option Addr) (c3:Nat) (lo:Nat) (w:World) (n1:SliceC BrtC 6 lo w a1 x.berths) (n2:SliceC SvcC 2 lo w a2 x.services) (n3:SliceC CpyC 12 lo w a3 x.copies)
  (l1:x.berths.length≤1048576) (l2:x.services.length≤1048576) (l3:x.copies.length≤1048576) (hw:Di x≤1048576) :
  Calls Tryz.prog 7 #[.agg #[.bool x.pack,.slice a1 x.berths.length c1,.slice a2 x.services.length c2,.slice a3 x.copies.length c3]] w fun e w'=>fN x w e w' (Ce x):=by
 have HN1:=iH n1;have HN2:=iH n2;have HN3:=iH n3;clear n1 n2 n3;have al:∀ (v:World) (ob:Obj),Below v.heap.size v (v.alloc ob):=fun v ob=>(Below.refl _ _).alloc nL _
 have HF0:=iH ((Blk.alloc w #[.bool x.pack,.slice a1 x.berths.length c1,.slice a2 x.services.length c2,.slice a3 x.copies.length c3] 38).below (al _ (Obj.cells #[.bool false,.slice none 0 0,.slice none 0 0,.slice none 0 0] 32)) (by simp));have HR0:=Blk.alloc (w.alloc (Obj.cells #[.bool x.pack,.slice a1 x.berths.length c1,.slice a2 x.services.length c2,.slice a3 x.copies.length c3] 38)) #[.bool false,.slice none 0 0,.slice none 0 0,.slice none 0 0] 32;rw [show (w.alloc (Obj.cells #[.bool x.pack,.slice a1 x.berths.length c1,.slice a2 x.services.length c2,.slice a3 x.copies.length c3] 38)).heap.size=w.heap.size+1 by simp] at HR0;replace HR0:=iH HR0;have hb0:Below w.heap.size w ((w.alloc (Obj.cells #[.bool x.pack,.slice a1 x.berths.length c1,.slice a2 x.services.length c2,.slice a3 x.copies.length c3] 38)).alloc (Obj.cells #[.bool false,.slice none 0 0,.slice none 0 0,.slice none 0 0] 32)):=((Below.refl _ _).alloc nL _).alloc (by simp) _;go_enter Tryz.func7,Tryz.ntmps7;go_upto_region 1 with fail;clear al;generalize ((w.alloc (Obj.cells #[.bool x.pack,.slice a1 x.berths.length c1,.slice a2 x.services.length c2,.slice a3 x.copies.length c3] 38)).alloc (Obj.cells #[.bool false,.slice none 0 0,.slice none 0 0,.slice none 0 0] 32))=w1 at *;go_wp2_with (refine wpList_load_mid rfl 38 _ rfl w.heap.size 0 rfl [.bool x.pack,.slice a1 x.berths.length c1,.slice a2 x.services.length c2,.slice a3 x.copies.length c3] _ HF0.out.rangeA Tryz.underlying38 rfl Dj ?_);refine (Px x a1 c1 a2 c2 a3 c3 lo w1 (HN1.out.below BrtC.holds hb0 nL) (HN2.out.below SvcC.holds hb0 nL) (HN3.out.below CpyC.holds hb0 nL) l1 l2 l3).mono ?_;rintro e w2 ⟨rfl,hb⟩;have HF2:=iH (HF0.out.below hb HF0.out.lt);have HR2:=iH (HR0.out.below hb HR0.out.lt);have hb2:=hb0.trans (hb.mono hb0.size);clear HF0 HR0 hb hb0
 cases hvv:Ce x with
 | false =>
  obtain ⟨w3,hw3⟩:∃ w3,w3=w2.setCells (w.heap.size+1) 0 #[.bool false,.slice none 0 0,.slice none 0 0,.slice none 0 0].toList:=⟨_,rfl⟩;have HR3:Hid (Blk (w.heap.size+1) #[.bool false,.slice none 0 0,.slice none 0 0,.slice none 0 0] 32 w3):=by rw [hw3];exact HR2.out.setAll _ rfl
  have hb3:Below w.heap.size w w3:=by rw [hw3];exact Ai (by omega) _ _ _ hb2
  have HW3:=iH hw3;clear hw3;go_wp2_with (refine Ap rfl 32 _ _ rfl (w.heap.size+1) 0 #[.bool false,.slice none 0 0,.slice none 0 0,.slice none 0 0] rfl rfl HR2.out.there Gb (by simp [Value.oneCell']) w3 HW3.out ?_);refine bodyPost_ret (Aw rfl _ _ (w.heap.size+1) [.bool false,.slice none 0 0,.slice none 0 0,.slice none 0 0] _ rfl HR3.out.rangeA Tryz.underlying32 rfl Gb) rfl ?_;show fN x w _ _ (Ce x)
  rw [hvv];exact ⟨rfl,hb3⟩
 | true =>
  have hv:=VOk.of hvv hw;go_upto_region 3 with fail;go_wp2_with (refine wpList_load_mid rfl 38 _ rfl w.heap.size 0 rfl [.bool x.pack,.slice a1 x.berths.length c1,.slice a2 x.services.length c2,.slice a3 x.copies.length c3] _ HF2.out.rangeA Tryz.underlying38 rfl Dj ?_);refine (Xd x a1 c1 a2 c2 a3 c3 lo w2 (HN1.out.below BrtC.holds hb2 nL) (HN3.out.below CpyC.holds hb2 nL) hv).mono ?_;rintro e w3 ⟨G,wa,rfl,hba,hLG⟩;have HLG:=iH hLG;have h23:Below w2.heap.size w2 w3:=hba.trans (hLG.hB.mono hba.size);clear hLG hba;go_wp2_with fail;refine (dI x lo wa G w3 HLG.out hv).mono ?_;rintro e w4 ⟨at_,qt,ar,qr,az,qz,B2,wk,rfl,hO,hT,hRW,hKK,hZW,hB2,hBk,hb4⟩;have hbA:Below w2.heap.size w2 w4:=h23.trans (hb4.mono h23.size);have HR4:=iH (HR2.out.below hbA HR2.out.lt);have hb5:=hb2.trans (hbA.mono hb2.size);have hs2:w.heap.size+1<w2.heap.size:=HR2.out.lt;have hs3:=h23.size;obtain ⟨w6,hw6⟩:∃ w6,w6=w4.setCells (w.heap.size+1) 0 #[.bool x.pack,.slice ar x.berths.length qr,.slice az (Ah x.berths x.berths.length).length qz,.slice at_ (Al stP x.copies x.copies.length).length qt].toList:=⟨_,rfl⟩;have HR6:Hid (Blk (w.heap.size+1) #[.bool x.pack,.slice ar x.berths.length qr,.slice az (Ah x.berths x.berths.length).length qz,.slice at_ (Al stP x.copies x.copies.length).length qt] 32 w6):=by rw [hw6];exact HR4.out.setAll _ rfl
  have hg6:w4.grownBy w6 (some (w.heap.size+1)):=by rw [hw6];exact Ch _ _ _
  have hb6:Below w.heap.size w w6:=by rw [hw6];exact Ai (by omega) _ _ _ hb5
  have HO6:=iH (Hb hO hg6 (fun r hr=>by cases hr;omega));have HZ6:=iH (hZW.kept hg6 (fun r hr=>by cases hr;omega));have HK6:Hid (∀ b,B2≤b→b<wk.heap.size→w6.heap[b]?=wk.heap[b]?):=fun b h1 h2=>(hg6.block b (by have h9:=hKK b h1 h2;rw [Array.getElem?_eq_getElem h2] at h9;exact (Array.getElem?_eq_some_iff.1 h9).1) (fun e=>by have:=Option.some.inj e;omega)).trans (hKK b h1 h2)
  have HRW:=iH hRW;have HTT:=iH hT;have HW6:=iH hw6;clear hw6 hg6 hO hT hRW hKK hZW hbA h23 HLG hb4;go_wp2_with (refine Ap rfl 32 _ _ rfl (w.heap.size+1) 0 #[.bool x.pack,.slice ar x.berths.length qr,.slice az (Ah x.berths x.berths.length).length qz,.slice at_ (Al stP x.copies x.copies.length).length qt] rfl rfl HR4.out.there Gb (by simp [Value.oneCell']) w6 HW6.out ?_);refine bodyPost_ret (Aw rfl _ _ (w.heap.size+1) [.bool x.pack,.slice ar x.berths.length qr,.slice az (Ah x.berths x.berths.length).length qz,.slice at_ (Al stP x.copies x.copies.length).length qt] _ rfl HR6.out.rangeA Tryz.underlying32 rfl Gb) rfl ?_;show fN x w _ _ (Ce x)
  rw [hvv];exact ⟨at_,qt,ar,qr,az,qz,B2,wk,rfl,Bd HO6.out (by omega),HTT.out,HRW.out,HK6.out,HZ6.out,by omega,hBk,hb6⟩
theorem CntC.flat:FlatC CntC 4:=fun _ _ _ _ _ _ _ h ⟨q0,q1,q2,q3,z⟩=>⟨(h 0 (by omega)).trans q0,(h 1 (by omega)).trans q1,(h 2 (by omega)).trans q2,(h 3 (by omega)).trans q3,z⟩
def RbK (base:Nat) (w:World) (v:Value) (cs:List Value) (l:List Rwp):Prop :=
 ∀ (j:Nat) (r:Rwp),l[j]?=some r→∃ (a2:Option Addr) (c2:Nat) (a9:Option Addr) (c9:Nat),(∀ i u,(vRw r [.slice a2 r.berth.marks.length c2,.slice a9 r.counts.length c9])[i]?=some u→cs[j*10+i]?=some u)∧SliceC StrC 1 base w a2 r.berth.marks∧SliceC CntC 4 base w a9 r.counts∧(∀ b o,a2=some ⟨b,o,none⟩→r.berth.marks≠[]→some b≠v.ownBlock∧b<w.heap.size)∧∀ b o,a9=some ⟨b,o,none⟩→r.counts≠[]→some b≠v.ownBlock∧b<w.heap.size
def RbG (base:Nat) (w:World) (v:Value) (l:List Rwp):Prop:=∃ cs,w.ownsRow base 92 10 v l.length cs∧RbK base w v cs l
theorem RbG.nil {base:Nat} {w:World}:RbG base w (.slice none 0 0) []:=⟨[],World.ownsRow_nil _ _ _ _,fun j x h=>by cases h⟩
theorem RbK.below {base:Nat} {w w':World} {v:Value} {cs:List Value} {l:List Rwp} (h:RbK base w v cs l) (hb:Below w.heap.size w w'):RbK base w' v cs l:=fun j r hj=>by
 obtain ⟨a2,c2,a9,c9,q1,q2,q3,q4,q5⟩:=h j r hj;exact ⟨a2,c2,a9,c9,q1,q2.below StrC.holds hb nL,q3.below CntC.holds hb nL,fun b o e hn=>⟨(q4 b o e hn).1,Nat.lt_of_lt_of_le (q4 b o e hn).2 hb.size⟩,fun b o e hn=>⟨(q5 b o e hn).1,Nat.lt_of_lt_of_le (q5 b o e hn).2 hb.size⟩⟩
theorem RbG.below {base:Nat} {w w':World} {v:Value} {l:List Rwp} (h:RbG base w v l) (hb:Below w.heap.size w w'):RbG base w' v l:=by
 obtain ⟨cs,h1,h2⟩:=h;exact ⟨cs,Ao h1 hb,h2.below hb⟩
theorem RbG.drew {base:Nat} {w:World} {v:Value} {l:List Rwp} (h:RbG base w v l):RbG base w.drew v l:=h
theorem jW {β:Type} {C:Ed β} {m base:Nat} {w:World} {b o:Nat} {l:List β} (h:SliceC C m base w (some ⟨b,o,none⟩) l) (hn:l≠[]):base≤b:=by
 rcases h.2 with h9 | ⟨b',o',e',⟨hlo,_⟩,_⟩
 ·exact absurd h9 hn
 ·cases e';exact hlo
theorem RbG.kept {base:Nat} {w w':World} {v:Value} {l:List Rwp} {row:Option Nat} (h:RbG base w v l) (hg:w.grownBy w' row) (hr:∀ r,row=some r→r<base):RbG base w' v l:=by
 obtain ⟨cs,h1,h2⟩:=h;refine ⟨cs,Hb h1 hg hr,fun j r hj=>?_⟩;obtain ⟨a2,c2,a9,c9,q1,q2,q3,q4,q5⟩:=h2 j r hj;refine ⟨a2,c2,a9,c9,q1,Bv StrC.flat q2 hg (fun b o e hn e2=>?_),Bv CntC.flat q3 hg (fun b o e hn e2=>?_),fun b o e hn=>⟨(q4 b o e hn).1,Nat.lt_of_lt_of_le (q4 b o e hn).2 hg.size⟩,fun b o e hn=>⟨(q5 b o e hn).1,Nat.lt_of_lt_of_le (q5 b o e hn).2 hg.size⟩⟩
 ·rw [e] at q2
  have:=jW q2 hn;have:=hr b e2.symm;omega
 ·rw [e] at q3
  have:=jW q3 hn;have:=hr b e2.symm;omega
theorem RbK.snoc {base:Nat} {w w':World} {v v':Value} {l:List Rwp} {r:Rwp} {a2:Option Addr} {c2:Nat} {a9:Option Addr} {c9:Nat} {cs:List Value} (h1:w.ownsRow base 92 10 v l.length cs) (h2:RbK base w v cs l)
  (s2:SliceC StrC 1 base w a2 r.berth.marks) (s9:SliceC CntC 4 base w a9 r.counts) (b2:∀ b o,a2=some ⟨b,o,none⟩→r.berth.marks≠[]→some b≠v.ownBlock∧b<w.heap.size) (b9:∀ b o,a9=some ⟨b,o,none⟩→r.counts≠[]→some b≠v.ownBlock∧b<w.heap.size)
  (ho:w'.ownsRow base 92 10 v' (l.length+1) (cs++vRw r [.slice a2 r.berth.marks.length c2,.slice a9 r.counts.length c9])) (hg:w.grownBy w' v.ownBlock) (hv:v'.ownBlock=v.ownBlock∨v'.ownBlock=some w.heap.size):RbG base w' v' (l++[r]):=by
 have far:∀ b:Nat,some b≠v.ownBlock∧b<w.heap.size→some b≠v'.ownBlock∧b<w'.heap.size:=by
  intro b hb;refine ⟨?_,Nat.lt_of_lt_of_le hb.2 hg.size⟩;rcases hv with e | e
  ·rw [e];exact hb.1
  ·rw [e];intro e2;cases e2;omega
 have hl:cs.length=l.length*10:=h1.1;refine ⟨_,by simpa using ho,fun j c hj=>?_⟩;by_cases hlt:j<l.length
 ·rw [List.getElem?_append_left hlt] at hj
  obtain ⟨a2',c2',a9',c9',q1,q2,q3,q4,q5⟩:=h2 j c hj;refine ⟨a2',c2',a9',c9',fun i u hu=>?_,Bv StrC.flat q2 hg (fun b o e hn=>(q4 b o e hn).1),Bv CntC.flat q3 hg (fun b o e hn=>(q5 b o e hn).1),fun b o e hn=>far b (q4 b o e hn),fun b o e hn=>far b (q5 b o e hn)⟩;have hi:i<10:=by have:=Ad hu;rwa [Nl c _ rfl] at this
  rw [List.getElem?_append_left (by rw [hl];omega)];exact q1 i u hu
 ·have hje:j=l.length:=by have:=Ad hj;simp at this;omega
  subst hje;simp at hj;subst hj;refine ⟨a2,c2,a9,c9,fun i u hu=>?_,Bv StrC.flat s2 hg (fun b o e hn=>(b2 b o e hn).1),Bv CntC.flat s9 hg (fun b o e hn=>(b9 b o e hn).1),fun b o e hn=>far b (b2 b o e hn),fun b o e hn=>far b (b9 b o e hn)⟩;rw [List.getElem?_append_right (by rw [hl];omega),hl,Nat.add_sub_cancel_left];exact hu
theorem RbG.slice {base:Nat} {w:World} {a:Option Addr} {q:Nat} {l:List Rwp} (h:RbG base w (.slice a l.length q) l) (hz:∀ r∈l,r.berth.name.size≤maxLen∧r.berth.zone.size≤maxLen) (hm:l.length≤maxLen):SliceC RwpC 10 base w a l:=by
 obtain ⟨cs,h1,h2⟩:=h;rcases h1.2 with ⟨hv,_⟩ | ⟨g,cap,cur,hv,hb,hg,_⟩
 ·have:l.length=0:=by injection hv
  rw [List.length_eq_zero_iff.1 this];exact SliceC.nil
 ·have ea:a=some ⟨g,0,none⟩:=by injection hv
  subst ea;refine ⟨hm,.inr ⟨g,0,rfl,⟨hb,fun _ p=>h1.frozenAt p⟩,(Array.getElem?_eq_some_iff.1 hg).1,fun j r hj=>?_⟩⟩;have hlt:=Ad hj;obtain ⟨a2,c2,a9,c9,q1,q2,q3,_⟩:=h2 j r hj;have hzz:=hz r (List.mem_of_getElem? hj);have cc:∀ i u,(vRw r [.slice a2 r.berth.marks.length c2,.slice a9 r.counts.length c9])[i]?=some u→w.cell? ⟨g,0+j*10+i,none⟩=some u:=fun i u hu=>by
   have hi:i<10:=by have:=Ad hu;rwa [Nl r _ rfl] at this
   have:=h1.cellAt (j*10+i) (by omega);rw [q1 i u hu] at this;simpa using this
  exact ⟨a2,c2,a9,c9,cc 0 _ rfl,cc 1 _ rfl,cc 2 _ rfl,cc 3 _ rfl,cc 4 _ rfl,cc 5 _ rfl,cc 6 _ rfl,cc 7 _ rfl,cc 8 _ rfl,cc 9 _ rfl,hzz.1,hzz.2,q2,q3⟩
def vZs (z:Znr) (s:Value):List Value:=[.string z.name,s]
theorem Zy (x:Znr) (s:Value):(vZs x s).length=2:=rfl
abbrev aH (base:Nat) (w:World) (v:Value) (l:List Znr):Prop:=OwnN vZs Znr.counts CntC 4 2 95 base w v l
def CtV (base:Nat) (w:World) (v:Value) (xs:List Cnt):Prop:=(xs=[]∧v=.slice none 0 0)∨∃ (g q:Nat),v=.slice (some ⟨g,0,none⟩) xs.length q∧w.ownsRow base 125 4 v xs.length (Am xs)
theorem CtV.below {base:Nat} {w w':World} {v:Value} {xs:List Cnt} (h:CtV base w v xs) (hb:Below w.heap.size w w'):CtV base w' v xs:=by
 rcases h with h | ⟨g,q,h1,h2⟩
 ·exact .inl h
 ·exact .inr ⟨g,q,h1,Ao h2 hb⟩
theorem CtV.kept {base:Nat} {w w':World} {v:Value} {xs:List Cnt} {row:Option Nat} (h:CtV base w v xs) (hg:w.grownBy w' row) (hr:∀ r,row=some r→r<base):CtV base w' v xs:=by
 rcases h with h | ⟨g,q,h1,h2⟩
 ·exact .inl h
 ·exact .inr ⟨g,q,h1,Hb h2 hg hr⟩
theorem CtV.form {base:Nat} {w:World} {v:Value} {xs:List Cnt} (h:CtV base w v xs):∃ a q,v=.slice a xs.length q:=by
 rcases h with ⟨h1,h2⟩ | ⟨g,q,h1,_⟩
 ·exact ⟨none,0,by rw [h2,h1];rfl⟩
 ·exact ⟨_,_,h1⟩
theorem CtV.slice {base:Nat} {w:World} {a:Option Addr} {q:Nat} {xs:List Cnt} (h:CtV base w (.slice a xs.length q) xs) (hl:xs.length≤1048576) (hz:∀ x∈xs,x.service.size≤20):SliceC CntC 4 base w a xs:=by
 rcases h with ⟨h1,_⟩ | ⟨g,q',h1,h2⟩
 ·subst h1;exact SliceC.nil
 ·exact Iz h2 hl (fun x hx=>by have:=hz x hx;omega)
theorem Kk:∀ (ys:List Cnt) (k:Nat) (y:Cnt) (v:Int),ys[k]?=some y→(Am ys).set (k*4+1) (.int .i64 v)=Am (ys.set k { y with n:=v })
 | [],_,_,_,h=>by cases h
 | x::r,0,y,v,h=>by
  simp at h;subst h;simp [Am,Cw]
 | x::r,k+1,y,v,h=>by
  simp at h;have ih:=Kk r k y v h;simp only [Am,List.set_cons_succ];rw [← ih,List.set_append_right _ _ (by rw [Cy];omega),Cy]
  congr 2
  omega
theorem Gd:∀ (ys:List Cnt) (k:Nat) (y:Cnt) (v:Int),ys[k]?=some y→(Am ys).set (k*4+2) (.int .i64 v)=Am (ys.set k { y with apart:=v })
 | [],_,_,_,h=>by cases h
 | x::r,0,y,v,h=>by
  simp at h;subst h;simp [Am,Cw]
 | x::r,k+1,y,v,h=>by
  simp at h;have ih:=Gd r k y v h;simp only [Am,List.set_cons_succ];rw [← ih,List.set_append_right _ _ (by rw [Cy];omega),Cy]
  congr 2
  omega
theorem Kn:∀ (ys:List Cnt) (k:Nat) (y:Cnt) (v:Int),ys[k]?=some y→(Am ys).set (k*4+3) (.int .i64 v)=Am (ys.set k { y with zone:=v })
 | [],_,_,_,h=>by cases h
 | x::r,0,y,v,h=>by
  simp at h;subst h;simp [Am,Cw]
 | x::r,k+1,y,v,h=>by
  simp at h;have ih:=Kn r k y v h;simp only [Am,List.set_cons_succ];rw [← ih,List.set_append_right _ _ (by rw [Cy];omega),Cy]
  congr 2
  omega
theorem Wz (xs:List Cnt) (k t:Nat):(Am (xs.drop k))[t]?=(Am xs)[k*4+t]?:=by
 by_cases h:k≤xs.length
 ·have e:Am xs=Am (xs.take k)++Am (xs.drop k):=by rw [← Eu,List.take_append_drop]
  rw [e,List.getElem?_append_right (by rw [Cl,List.length_take];omega),Cl,List.length_take]
  congr 1
  omega
 ·rw [List.drop_eq_nil_of_le (by omega),List.getElem?_eq_none (l:=Am xs) (by rw [Cl];omega)]
  rfl
theorem Wy (xs:List Cnt) (k t:Nat) {u:Value} (h:(Am (xs.take k))[t]?=some u):(Am xs)[t]?=some u:=by
 have e:Am xs=Am (xs.take k)++Am (xs.drop k):=by rw [← Eu,List.take_append_drop]
 rw [e,List.getElem?_append_left (Ad h)];exact h
theorem Vc {α:Type} {P:α→Prop} {xs:List α} {k:Nat} {y:α} (h:∀ z∈xs.take k,P z) (hy:xs[k]?=some y) (hp:P y):∀ z∈xs.take (k+1),P z:=fun z hz=>by
 rw [List.take_add_one,hy] at hz;rcases List.mem_append.1 hz with hz | hz
 ·exact h z hz
 ·rw [show z=y by simpa using hz]
  exact hp
theorem Ar {P:Program} {op:Oper} {a:Act} {w:World} {K:Act→World→Prop} {Q:Exit→Act→World→Prop} (s x:Operand) (t:TypeId)
  (ho:op.op=.call { callee:=.builtin .append,args:=#[s,x],argTypes:=#[t,t] })
  (base:Nat) (e:TypeId) (i:TypeInfo) (z:Value) (size bytes:Nat) (ht:P.underlying t=some (.slice e)) (hi:P.info? e=some i) (hz:i.zero=some z)
  (hsize:i.size=size) (hby:i.bytes=bytes) (hzs:z.cells.size=size) (hsz:0<size)
  (v:Value) (n:Nat) (xs:List Value) (hs:a.eval s=v) (hown:w.ownsRow base e size v n xs)
  (ao:Option Addr) (m c:Nat) (news:List Value) (hx:a.eval x=.slice ao m c) (hno:ao=none→m=0∧c=0) (hl:news.length=m*size) (hnews:∀ ad,ao=some ad→∀ j u,news[j]?=some u→w.cell? (ad.add j)=some u) (h1:∀ u∈news,u.oneCell'=true)
  (h63:n+m≤maxLen) (hbytes:(n+m)*bytes≤140737488355328) (hbase:base≤w.heap.size)
  (h:∀ v' w',w'.ownsRow base e size v' (n+m) (xs++news)→w.grownBy w' v.ownBlock→(v'=.slice none 0 0↔v=.slice none 0 0∧m=0)→(v'.ownBlock=v.ownBlock∨v'.ownBlock=some w.heap.size)→K (a.put op.dst v') w'):op.wp P a w K Q:=by
 cases ao with
 | some ad=>exact Bj s x t ho base e i z size bytes ht hi hz hsize hby hzs hsz v n xs hs hown ad m c news hx hl (hnews ad rfl) h1 h63 hbytes hbase h
 | none =>
  obtain ⟨rfl,rfl⟩:=hno rfl;have hn:news=[]:=List.length_eq_zero_iff.1 (by omega);subst hn;have hr:=run_append_owned_none (P:=P) (w:=w) base t op.type e i size ht hi v n xs hown;unfold Oper.wp;simp [execOp,ho,resolve,invoke,builtin,hs,hx,hr,Result.andThen];exact h v w (by simpa using hown) ⟨rfl,rfl,rfl,Nat.le_refl _,fun _ _ _=>rfl⟩ (by simp) (.inl rfl)
structure bW (xs:List Cnt) (c:Cpy) (k:Nat) (ys:List Cnt) (y:Cnt):Prop where
 at_:ys[k]?=some y
 sv:y.service=c.service
 add:Bh xs c=ys.set k (Fr c y)
theorem eR {xs:List Cnt} {s:ByteArray} (h:∀ x∈xs,x.service≠s):ofC xs s=Dm:=by
 unfold ofC;rw [List.find?_eq_none.2 (fun x hx=>by simpa using h x hx)];rfl
theorem bE {xs:List Cnt} {c:Cpy} {k:Nat} {y:Cnt} (ha:Asc Cnt.service xs) (h1:∀ x∈xs.take k,ltN x.service c.service=true) (hy:xs[k]?=some y) (he:y.service=c.service):bW xs c k xs y:=by
 refine ⟨hy,he,?_⟩;have h2:ofC xs c.service=y:=by
  unfold ofC;rw [← he,ha.find (List.mem_of_getElem? hy)];rfl
 have hl:=Ad hy;unfold Bh;rw [h2,Rw (a:=Fr c y) h1 hy (by rw [Mn];exact decide_eq_false (fun h=>Pq _ (by rw [he] at h;exact h))) he];rw [List.set_eq_take_append_cons_drop,if_pos hl]
theorem Ux {xs:List Cnt} {c:Cpy} {k:Nat} (ha:Asc Cnt.service xs) (hk:k≤xs.length) (h1:∀ x∈xs.take k,ltN x.service c.service=true) (hn:∀ y,xs[k]?=some y→ltN y.service c.service=false) (he:∀ y,xs[k]?=some y→y.service≠c.service):bW xs c k (xs.take k++⟨c.service,0,0,0⟩::xs.drop k) ⟨c.service,0,0,0⟩:=by
 have hkl:(xs.take k).length=k:=by rw [List.length_take];omega
 refine ⟨?_,rfl,?_⟩
 ·rw [List.getElem?_append_right (by omega),hkl,Nat.sub_self]
  rfl
 have hno:∀ x∈xs,x.service≠c.service:=fun x hx e=>by
  obtain ⟨i,hi⟩:=List.getElem?_of_mem hx;have hil:=Ad hi;by_cases hik:i<k
  ·have h2:=h1 x (List.mem_of_getElem? (by rw [List.getElem?_take,if_pos hik];exact hi))
   rw [Mn,e] at h2;exact Pq _ (of_decide_eq_true h2)
  ·obtain ⟨y,hy⟩:∃ y,xs[k]?=some y:=⟨xs[k]'(by omega),List.getElem?_eq_getElem _⟩
   have h3:=hn y hy;rw [Mn] at h3;have h4:=Xo (of_decide_eq_false h3) (he y hy);by_cases e2:i=k
   ·subst e2
    rw [hi] at hy;cases hy
    exact he x hi e
   ·have h5:=(List.pairwise_iff_getElem.1 ha) k i (by omega) hil (by omega)
    rw [List.getElem?_eq_getElem (by omega)] at hy hi;rw [Option.some.inj hy,Option.some.inj hi,e] at h5;exact Pq _ (eJ h4 h5)
 unfold Bh;rw [eR hno];have h2:Fy Cnt.service xs (Fr c Dm)=xs.take k++Fr c Dm::xs.drop k:=by
  by_cases h:k<xs.length
  ·have hy:xs[k]?=some xs[k]:=List.getElem?_eq_getElem h
   exact Vf (a:=Fr c Dm) h1 hy (hn _ hy) (he _ hy)
  ·obtain rfl:k=xs.length:=by omega
   rw [List.drop_length];exact Wl (a:=Fr c Dm) h1
 rw [h2,List.set_append_right _ _ (by omega),hkl,Nat.sub_self];rfl
end Go.Proofs.YtpeajnkkdioflaaGreat
