import Derived.Test.YtpeajnkkdioflaaGreatTk3
import Derived.Test.YtpeajnkkdioflaaGreatJ17
set_option maxHeartbeats 1000000
namespace Go.Proofs.YtpeajnkkdioflaaGreat.P
def onto (c:UInt8):List UInt8→List (List UInt8)→List (List UInt8)
 | d::_,h::t=>if letter d=true then (c::h)::t else [c]::h::t
 | [],ts=>[c]::ts
 | _::_,[]=>[[c]]
def toks:List UInt8→List (List UInt8)
 | []=>[]
 | c::r=>if c=32 then toks r else if letter c=true then onto c r (toks r) else [c]::toks r
theorem lX:toks []=[]:=rfl
theorem toks_cons (c:UInt8) (r:List UInt8):toks (c::r)=if c=32 then toks r else if letter c=true then onto c r (toks r) else [c]::toks r:=rfl
theorem toks_blank (r:List UInt8):toks (32::r)=toks r:=by rw [toks_cons,if_pos rfl]
theorem toks_sign {c:UInt8} (r:List UInt8) (h:c≠32) (hl:letter c=false):toks (c::r)=[c]::toks r:=by rw [toks_cons,if_neg h];simp [hl]
theorem Li:letter 32=false:=by decide
def stops:List UInt8→Prop
 | []=>True
 | d::_=>letter d=false
theorem fP {c:UInt8} {r:List UInt8} (hc:letter c=true) (hr:stops r):toks (c::r)=[c]::toks r:=by
 have h32:c≠32:=fun e=>by rw [e,Li] at hc;cases hc
 rw [toks_cons,if_neg h32,if_pos hc]
 cases r with
 | nil=>rfl
 | cons d t =>
  have hd:letter d=false:=hr
  cases h:toks (d::t) with
  | nil=>rfl
  | cons a b=>simp [onto,hd]
theorem toks_run:∀ (l:List UInt8) (r:List UInt8),l≠[]→(∀ c∈l,letter c=true)→stops r→toks (l++r)=l::toks r
 | [],_,h,_,_=>absurd rfl h
 | [c],r,_,hl,hr=>fP (hl c (by simp)) hr
 | c::d::l,r,_,hl,hr=>by
  have ih:=toks_run (d::l) r (by simp) (fun x hx=>hl x (by simp [hx])) hr;have hc:=hl c (by simp);have hd:=hl d (by simp);have h32:c≠32:=fun e=>by rw [e,Li] at hc;cases hc
  show toks (c::(d::l++r))=_
  rw [toks_cons,if_neg h32,if_pos hc,ih];simp [onto,hd]
def bts (l:List UInt8):ByteArray:=⟨l.toArray⟩
def nmB (t:List UInt8):Bool:=decide (1≤t.length∧t.length≤20) && t.all letter
theorem nmB_eq (t:List UInt8):nameOk (bts t)=nmB t:=by
 unfold nameOk nmB bts;simp [ByteArray.size]
def tk (s:UInt8):List (List UInt8)→Option (List (List UInt8))
 | []=>none
 | t::r=>if t=[s] then some r else none
def nm:List (List UInt8)→Option (List UInt8×List (List UInt8))
 | []=>none
 | t::r=>if nmB t=true then some (t,r) else none
def markT (l:List (List UInt8)):Option (Tr×List (List UInt8)) :=
 match nm l with
 | none=>none
 | some (n,r)=>match tk 61 r with
  | none=>some (nmT (bts n),r)
  | some r'=>match nm r' with
   | none=>none
   | some (v,r'')=>some (vlT (bts n) (bts v),r'')
def rd:Nat→Nat→Tr→List (List UInt8)→Option (Tr×List (List UInt8))
 | 0,_,_,_=>none
 | f+1,0,_,l=>match tk 33 l with
  | some r=>match rd f 0 nonT r with
   | none=>none
   | some (y,r')=>some (ntT y,r')
  | none=>match tk 40 l with
   | some r=>match rd f 2 nonT r with
    | none=>none
    | some (y,r')=>match tk 41 r' with
     | none=>none
     | some r''=>some (y,r'')
   | none=>markT l
 | f+1,1,_,l=>match rd f 0 nonT l with
  | none=>none
  | some (y,r)=>rd f 3 y r
 | f+1,2,_,l=>match rd f 1 nonT l with
  | none=>none
  | some (y,r)=>rd f 4 y r
 | f+1,3,x,l=>match tk 38 l with
  | none=>some (x,l)
  | some r=>match rd f 0 nonT r with
   | none=>none
   | some (y,r')=>rd f 3 (anT x y) r'
 | f+1,_+4,x,l=>match tk 124 l with
  | none=>some (x,l)
  | some r=>match rd f 1 nonT r with
   | none=>none
   | some (y,r')=>rd f 4 (orT x y) r'
theorem tk_some {s:UInt8} {l r:List (List UInt8)} (h:tk s l=some r):l=[s]::r:=by
 cases l with
 | nil=>cases h
 | cons t q =>
  have h':(if t=[s] then some q else none)=some r:=h
  split at h'
  ·next e=>injection h' with h';rw [e,h']
  ·cases h'
theorem nm_some {l r:List (List UInt8)} {n:List UInt8} (h:nm l=some (n,r)):l=n::r∧nmB n=true:=by
 cases l with
 | nil=>cases h
 | cons t q =>
  have h':(if nmB t=true then some (t,q) else none)=some (n,r):=h
  split at h'
  ·next e=>injection h' with h';injection h' with h1 h2;subst h1 h2;exact ⟨rfl,e⟩
  ·cases h'
theorem tk_len {s:UInt8} {l r:List (List UInt8)} (h:tk s l=some r):r.length+1=l.length:=by rw [tk_some h];rfl
def Rd (x:Tr) (l:List (List UInt8)) (m:Nat) (y:Tr) (r:List (List UInt8)):Prop :=
 r.length≤l.length∧(m≤2→r.length<l.length)∧wf y∧good y∧count y+r.length≤l.length+(if m≤2 then 0 else count x)∧tall y<count y
theorem iV {l r:List (List UInt8)} {y:Tr} (h:markT l=some (y,r)) (x:Tr) (m:Nat) (hm:m≤2):Rd x l m y r:=by
 unfold markT at h
 split at h
 ·cases h
 ·next n q hn =>
  obtain ⟨e1,e2⟩:=nm_some hn;have p1:=nameOk_pos ((nmB_eq n).trans e2)
  split at h
  ·injection h with h;injection h with h1 h2;subst h1 h2
   subst e1;refine ⟨by simp,fun _=>by simp,jO _,by rw [gU];exact p1,?_,?_⟩
   ·rw [Ov,if_pos hm];simp;omega
   ·rw [tall_nm,Ov];omega
  ·next q' hq =>
   split at h
   ·cases h
   ·next v r' hv =>
    obtain ⟨e3,e4⟩:=nm_some hv;have p2:=nameOk_pos ((nmB_eq v).trans e4);injection h with h;injection h with h1 h2;subst h1 h2;have:=tk_some hq;subst this;subst e1 e3;refine ⟨by simp;omega,fun _=>by simp;omega,jY _ _,by rw [iI];exact ⟨p1,p2⟩,?_,?_⟩
    ·rw [Pp,if_pos hm];simp;omega
    ·rw [tall_vl,Pp];omega
theorem rd_rd:∀ (f m:Nat) (x:Tr) (l:List (List UInt8)) (y:Tr) (r:List (List UInt8)),(2<m→wf x∧good x∧tall x<count x)→rd f m x l=some (y,r)→Rd x l m y r
 | 0,m,x,l,y,r,_,h=>by cases m <;> cases h
 | f+1,0,x,l,y,r,_,h=>by
  unfold rd at h
  split at h
  ·next q hq =>
   split at h
   ·cases h
   ·next z r' hz =>
    injection h with h;injection h with h1 h2;subst h1 h2;obtain ⟨a1,a2,a3,a4,a5,a6⟩:=rd_rd f 0 _ _ _ _ (fun h=>by omega) hz;have:=tk_len hq;have a2:=a2 (by omega);rw [if_pos (by omega)] at a5;refine ⟨by omega,fun _=>by omega,kA a3,by rw [iL];exact a4,?_,?_⟩
    ·rw [count_nt,if_pos (by omega)];omega
    ·rw [tall_nt,count_nt];omega
  ·split at h
   ·next q hq =>
    split at h
    ·cases h
    ·next z r' hz =>
     split at h
     ·cases h
     ·next r'' hr =>
      injection h with h;injection h with h1 h2;subst h1 h2;obtain ⟨a1,a2,a3,a4,a5,a6⟩:=rd_rd f 2 _ _ _ _ (fun h=>by omega) hz;have:=tk_len hq;have:=tk_len hr;have a2:=a2 (by omega);rw [if_pos (by omega)] at a5;exact ⟨by omega,fun _=>by omega,a3,a4,by rw [if_pos (by omega)];omega,a6⟩
   ·exact iV h x 0 (by omega)
 | f+1,1,x,l,y,r,_,h=>by
  unfold rd at h
  split at h
  ·cases h
  ·next z q hz =>
   obtain ⟨a1,a2,a3,a4,a5,a6⟩:=rd_rd f 0 _ _ _ _ (fun h=>by omega) hz;obtain ⟨b1,b2,b3,b4,b5,b6⟩:=rd_rd f 3 _ _ _ _ (fun _=>⟨a3,a4,a6⟩) h;have a2:=a2 (by omega);rw [if_pos (by omega)] at a5;rw [if_neg (by omega)] at b5;exact ⟨by omega,fun _=>by omega,b3,b4,by rw [if_pos (by omega)];omega,b6⟩
 | f+1,2,x,l,y,r,_,h=>by
  unfold rd at h
  split at h
  ·cases h
  ·next z q hz =>
   obtain ⟨a1,a2,a3,a4,a5,a6⟩:=rd_rd f 1 _ _ _ _ (fun h=>by omega) hz;obtain ⟨b1,b2,b3,b4,b5,b6⟩:=rd_rd f 4 _ _ _ _ (fun _=>⟨a3,a4,a6⟩) h;have a2:=a2 (by omega);rw [if_pos (by omega)] at a5;rw [if_neg (by omega)] at b5;exact ⟨by omega,fun _=>by omega,b3,b4,by rw [if_pos (by omega)];omega,b6⟩
 | f+1,3,x,l,y,r,hx,h=>by
  obtain ⟨x1,x2,x3⟩:=hx (by omega);unfold rd at h
  split at h
  ·injection h with h;injection h with h1 h2;subst h1 h2
   exact ⟨Nat.le_refl _,fun h=>by omega,x1,x2,by rw [if_neg (by omega)];omega,x3⟩
  ·next q hq =>
   split at h
   ·cases h
   ·next z r' hz =>
    obtain ⟨a1,a2,a3,a4,a5,a6⟩:=rd_rd f 0 _ _ _ _ (fun h=>by omega) hz;obtain ⟨b1,b2,b3,b4,b5,b6⟩:=rd_rd f 3 _ _ _ _ (fun _=>⟨wf_an x1 a3,by rw [good_an];exact ⟨x2,a4⟩,by rw [tall_an,count_an];omega⟩) h;have:=tk_len hq;have a2:=a2 (by omega);rw [if_pos (by omega)] at a5;rw [if_neg (by omega),count_an] at b5;exact ⟨by omega,fun h=>by omega,b3,b4,by rw [if_neg (by omega)];omega,b6⟩
 | f+1,m+4,x,l,y,r,hx,h=>by
  obtain ⟨x1,x2,x3⟩:=hx (by omega);unfold rd at h
  split at h
  ·injection h with h;injection h with h1 h2;subst h1 h2
   exact ⟨Nat.le_refl _,fun h=>by omega,x1,x2,by rw [if_neg (by omega)];omega,x3⟩
  ·next q hq =>
   split at h
   ·cases h
   ·next z r' hz =>
    obtain ⟨a1,a2,a3,a4,a5,a6⟩:=rd_rd f 1 _ _ _ _ (fun h=>by omega) hz;obtain ⟨b1,b2,b3,b4,b5,b6⟩:=rd_rd f 4 _ _ _ _ (fun _=>⟨wf_or x1 a3,by rw [good_or];exact ⟨x2,a4⟩,by rw [tall_or,count_or];omega⟩) h;have:=tk_len hq;have a2:=a2 (by omega);rw [if_pos (by omega)] at a5;rw [if_neg (by omega),count_or] at b5;exact ⟨by omega,fun h=>by omega,b3,b4,by rw [if_neg (by omega)];omega,b6⟩
end Go.Proofs.YtpeajnkkdioflaaGreat.P
namespace Go.Proofs.YtpeajnkkdioflaaGreat
open Go.RowKit
structure But (p B:Nat) (w w':World):Prop where
 os:w'.os=w.os
 tape:w'.tape=w.tape
 output:w'.output=w.output
 size:w.heap.size≤w'.heap.size
 block:∀ k,k<B→k≠p→w'.heap[k]?=w.heap[k]?
theorem But.refl (p B:Nat) (w:World):But p B w w:=⟨rfl,rfl,rfl,Nat.le_refl _,fun _ _ _=>rfl⟩
theorem But.trans {p B:Nat} {a b c:World} (h:But p B a b) (k:But p B b c):But p B a c :=
 ⟨k.os.trans h.os,k.tape.trans h.tape,k.output.trans h.output,Nat.le_trans h.size k.size,fun i hi hp=>(k.block i hi hp).trans (h.block i hi hp)⟩
theorem But.mono {p B B':Nat} {w w':World} (h:But p B w w') (hB:B'≤B):But p B' w w':=⟨h.os,h.tape,h.output,h.size,fun k hk=>h.block k (Nat.lt_of_lt_of_le hk hB)⟩
theorem But.of_below {p B:Nat} {w w':World} (h:Below B w w'):But p B w w':=⟨h.os,h.tape,h.output,h.size,fun k hk _=>h.block k hk⟩
theorem But.set {p B:Nat} {a w:World} (h:But p B a w) (o:Nat) (v:Value):But p B a (w.setCell ⟨p,o,none⟩ v) :=
 h.trans ⟨rfl,rfl,rfl,by simp [World.setCell],fun k _ hp=>Below.heap_setCell _ _ _ _ hp⟩
theorem But.drew {p B:Nat} {a w:World} (h:But p B a w):But p B a w.drew:=⟨h.os,h.tape,h.output,h.size,h.block⟩
theorem But.below {p B B':Nat} {w w':World} (h:But p B w w') (hB:B'≤B) (hp:B'≤p):Below B' w w':=⟨h.os,h.tape,h.output,h.size,fun k hk=>h.block k (by omega) (by omega)⟩
def RdAt (w:World) (p:Nat) (t:ByteArray) (i:Nat):Prop :=
 w.cell? ⟨p,0,none⟩=some (.string t)∧w.cell? ⟨p,1,none⟩=some (.int .i64 i)∧w.frozen? ⟨p,1,none⟩=false
theorem RdAt.lt {w:World} {p:Nat} {t:ByteArray} {i:Nat} (h:RdAt w p t i):p<w.heap.size:=block_lt_of_cell h.1
theorem RdAt.below {w w':World} {p B:Nat} {t:ByteArray} {i:Nat} (h:RdAt w p t i) (hb:Below B w w') (hB:p<B):RdAt w' p t i :=
 ⟨(hb.cell (p:=⟨p,0,none⟩) hB).trans h.1,(hb.cell (p:=⟨p,1,none⟩) hB).trans h.2.1,(hb.frozen (p:=⟨p,1,none⟩) hB).trans h.2.2⟩
theorem RdAt.set {w:World} {p:Nat} {t:ByteArray} {i:Nat} (h:RdAt w p t i) (k:Nat):RdAt (w.setCell ⟨p,1,none⟩ (.int .i64 k)) p t k:=by
 obtain ⟨h0,h1,h2⟩:=h;refine ⟨?_,?_,?_⟩
 ·simp [go_sem,h0]
 ·simp [go_sem,h1]
 ·simp [go_sem,h2]
theorem RdAt.succ {w:World} {p:Nat} {t:ByteArray} {i:Nat} (h:RdAt w p t i):RdAt (w.setCell ⟨p,1,none⟩ (.int .i64 ((i:Int)+1))) p t (i+1):=h.set (i+1)
def Su (t:ByteArray) (p:Nat) (w:World):Nat:=t.size - (match w.cell? ⟨p,1,none⟩ with | some v=>(intOf v).toNat | none=>0)
theorem Jg {w:World} {p:Nat} {t:ByteArray} {i:Nat} (h:RdAt w p t i):Su t p w=t.size - i:=by
 unfold Su;rw [h.2.1];simp [intOf]
theorem RdAt.drew {w:World} {p:Nat} {t:ByteArray} {i:Nat} (h:RdAt w p t i):RdAt w.drew p t i:=h
def Ab (t:ByteArray) (i:Nat):List (List UInt8):=P.toks (t.data.toList.drop i)
theorem Nx {t:ByteArray} {i:Nat} (h:i<t.size):t.data.toList.drop i=t[i]::t.data.toList.drop (i+1):=by
 rw [List.drop_eq_getElem_cons (by simpa using h)];rfl
theorem Ku {t:ByteArray} {i:Nat} (h:i<t.size) (hb:t[i]=32):Ab t (i+1)=Ab t i:=by
 unfold Ab;rw [Nx h,hb,P.toks_blank]
theorem Ja {t:ByteArray} {i:Nat} (h:i<t.size) (hb:t[i]≠32) (hl:P.letter t[i]=false):Ab t i=[t[i]]::Ab t (i+1):=by
 unfold Ab;rw [Nx h,P.toks_sign _ hb hl]
theorem Gg {t:ByteArray} {i:Nat} (h:t.size≤i):Ab t i=[]:=by
 unfold Ab;rw [List.drop_eq_nil_of_le (by simpa using h)];rfl
theorem bS (c:UInt8) (r:List UInt8) (ts:List (List UInt8)):∃ h l,P.onto c r ts=(c::h)::l:=by
 cases r with
 | nil=>exact ⟨_,_,rfl⟩
 | cons d r =>
  cases ts with
  | nil=>exact ⟨_,_,rfl⟩
  | cons h t =>
   by_cases hd:P.letter d=true
   ·exact ⟨h,t,by simp [P.onto,hd]⟩
   ·exact ⟨[],h::t,by simp [P.onto,hd]⟩
theorem Na {t:ByteArray} {i:Nat} (h:i<t.size) (hb:t[i]≠32):∃ l r,Ab t i=(t[i]::l)::r:=by
 unfold Ab;rw [Nx h,P.toks_cons,if_neg hb];by_cases hl:P.letter t[i]=true
 ·rw [if_pos hl];exact bS _ _ _
 ·rw [if_neg hl];exact ⟨[],_,rfl⟩
theorem kJ {t:ByteArray} {k:Nat} {s:UInt8} (h:k<t.size) (hc:t[k]=s) (h32:s≠32) (hl:P.letter s=false):P.tk s (Ab t k)=some (Ab t (k+1)):=by
 rw [Ja h (by rw [hc];exact h32) (by rw [hc];exact hl),hc];simp [P.tk]
theorem jE {t:ByteArray} {k:Nat} {s:UInt8} (h:k<t.size) (hc:¬ t[k]=s) (hb:t[k]≠32):P.tk s (Ab t k)=none:=by
 obtain ⟨l,r,e⟩:=Na h hb;rw [e];simp [P.tk,hc]
def Nc (t:ByteArray) (i:Nat):Prop:=∀ h:i<t.size,t[i]≠32
theorem Ng {P:Program} {md:Region.Mode} {ops:Array Oper} {Q:Exit→Act→World→Prop} {S S':World→Prop} (hS:∀ w,S' w→S w):∀ (fuel:Nat) (listed:Array Bool) (a:Act) (w:World),wpAnyH P md ops Q S' fuel listed a w→wpAnyH P md ops Q S fuel listed a w
 | 0,_,_,_,h=>h
 | fuel+1,_,_,_,h=>⟨h.1,fun i hi=>wpOp_mono (fun a' w' h'=>⟨hS w' h'.1,Ng hS fuel _ a' w' h'.2⟩) (h.2 i hi)⟩
theorem Ji (p:Nat) (t:ByteArray) (i:Nat) (w:World) (hr:RdAt w p t i) (hi:i≤t.size) (ht:t.size≤200) :
  Calls Tryz.prog 166 #[.pointer (some ⟨p,0,none⟩)] w fun e w'=>∃ k,e=.returned (.bool (decide (k=t.size)))∧i≤k∧k≤t.size∧Ab t k=Ab t i∧Nc t k∧RdAt w' p t k∧But p w.heap.size w w':=by
 have HR:Hid (RdAt w p t i):=hr;clear hr;go_enter Tryz.func166,Tryz.ntmps166;go_wp2_with fail;go_loopw [] (fun wr=>∃ k,i≤k∧k≤t.size∧Hid (Ab t k=Ab t i)∧Hid (RdAt wr p t k)∧Hid (But p w.heap.size w wr)) (fun wr=>Su t p wr)
 case atStart=>exact ⟨i,Nat.le_refl _,hi,rfl,HR,But.refl _ _ _⟩
 case round =>
  obtain ⟨k,h1,h2,h3,h4,h5⟩:=hrel;obtain ⟨r0,r1,r2⟩:=h4.out;by_cases hlt:k<t.size
  ·have i0:(0:Int)≤(k:Int):=by omega
   have i1:(k:Int)<(t.size:Int):=by omega
   by_cases hb:t[k]=32
   ·have hb':t[k].toNat=32:=by rw [hb];rfl
    have HT:Hid (Ab t (k+1)=Ab t i):=(Ku hlt hb).trans h3.out;clear hb;go_wp2_with fail
    go_region
    go_wp2_with fail;go_roundw
    case rel=>exact ⟨k+1,by omega,by omega,HT,h4.out.succ.drew,(h5.out.set _ _).drew⟩
    case measure=>rw [Jg h4.out.succ.drew,Jg h4.out];omega
   ·have hb':¬ t[k].toNat=32:=fun e=>hb (UInt8.toNat_inj.1 e)
    have HS:Hid (Nc t k):=fun _=>hb
    clear hb;go_wp2_with fail
    go_region
    go_wp2_with fail
    go_region
    go_wp2_with fail;go_ret;exact ⟨k,Ae (by rw [Bool.eq_iff_iff];simp;omega),h1,h2,h3.out,HS.out,h4.out,h5.out.drew.drew⟩
  ·have hke:k=t.size:=by omega
   have HS:Hid (Nc t k):=fun h=>absurd h hlt
   have i1:¬ (k:Int)<(t.size:Int):=by omega
   go_wp2_with fail
   go_region
   go_wp2_with fail
   go_region
   go_wp2_with fail;go_ret;exact ⟨k,Ae (decide_eq_true hke).symm,h1,h2,h3.out,HS.out,h4.out,h5.out.drew.drew⟩
def lL (p:Nat) (t:ByteArray) (i:Nat) (w:World):Prop:=RdAt w p t i
theorem Hf (p:Nat) (t:ByteArray) (i:Nat) (s:UInt8) (w:World) (hr:RdAt w p t i) (hi:i≤t.size) (ht:t.size≤200) (h32:s≠32) (hl:P.letter s=false) :
  Calls Tryz.prog 178 #[.pointer (some ⟨p,0,none⟩),.int .u8 s.toNat] w fun e w'=>∃ k,e=.returned (.bool (P.tk s (Ab t i)).isSome)∧i≤k∧k≤t.size∧Ab t k=(P.tk s (Ab t i)).getD (Ab t i)∧RdAt w' p t k∧But p w.heap.size w w':=by
 have HR:Hid (RdAt w p t i):=hr;clear hr;go_enter Tryz.func178,Tryz.ntmps178;go_wp2_with fail;refine wp_region_held_drew (S:=fun _=>True) (by kernel_rfl) trivial (fun hS=>?_);refine ty 0 ⟨some 5,_,_,_,_,none⟩ (.pointer (some ⟨p,0,none⟩)) rfl (by rfl) ?_ trivial ?_
 ·intro wy hy
  go_simp <;> omega
 simp only [pA,pB,pC,pD];refine rd1 1 ⟨some 6,_,_,_,_,none⟩ rfl (fun K hK=>?_);go_simp;refine (Ji p t i _ HR.out.drew hi ht).mono ?_;rintro e w1 ⟨k,rfl,k1,k2,k3,k4,k5,k6⟩;have H5:Hid (RdAt w1 p t k):=k5;have H6:Hid (But p w.heap.size w w1):=(But.refl p w.heap.size w).drew.trans k6;have H3:Hid (Ab t k=Ab t i):=k3;have H4:Hid (Nc t k):=k4;refine hK.out _ _ trivial (fun _=>?_);clear k3 k4 k5 k6 hS;clear hK K;refine Ng (S':=lL p t k) (fun _ _=>trivial) _ _ _ _ ?_;have hS:lL p t k w1:=H5.out;by_cases hk:k=t.size
 ·have HT:Hid (P.tk s (Ab t i)=none):=by rw [← H3.out,Gg (by omega)];rfl
  rw [decide_eq_true hk];refine x1 2 7 (.bool true) rfl hS ?_;simp only [pA,pB,pC,pD];refine ts 3 8 rfl hS ?_;simp only [pA,pB,pC,pD];refine ts 4 9 rfl hS ?_;simp only [pA,pB,pC,pD];refine ts 5 10 rfl hS ?_;simp only [pA,pB,pC,pD];refine ts 6 11 rfl hS ?_;simp only [pA,pB,pC,pD];refine ts 7 12 rfl hS ?_;simp only [pA,pB,pC,pD];refine ts 8 13 rfl hS ?_;simp only [pA,pB,pC,pD];refine ts 9 14 rfl hS ?_;simp only [pA,pB,pC,pD];refine ts 10 15 rfl hS ?_;simp only [pA,pB,pC,pD];refine ts 11 16 rfl hS ?_;simp only [pA,pB,pC,pD];refine ts 12 17 rfl hS ?_;simp only [pA,pB,pC,pD];refine ts 13 18 rfl hS ?_;simp only [pA,pB,pC,pD];refine x1 14 19 (.bool true) rfl hS ?_;simp only [pA,pB,pC,pD];refine td ?_;obtain ⟨r0,r1,r2⟩:=H5.out;go_wp2_with fail;go_ret;exact ⟨k,by rw [HT.out];rfl,k1,k2,by rw [HT.out,H3.out];rfl,H5.out,H6.out⟩
 ·have hlt:k<t.size:=by omega
  rw [decide_eq_false hk];have i0:(0:Int)≤(k:Int):=by omega
  have i1:(k:Int)<(t.size:Int):=by omega
  by_cases hc:t[k]=s
  ·have HT:Hid (P.tk s (Ab t i)=some (Ab t (k+1))):=by rw [← H3.out];exact kJ hlt hc h32 hl
   have hc':t[k].toNat=s.toNat:=by rw [hc]
   clear hc;refine x1 2 7 (.bool false) rfl hS ?_;simp only [pA,pB,pC,pD];refine x1 3 8 (.pointer (some ⟨p,0,none⟩)) rfl hS ?_;simp only [pA,pB,pC,pD];refine x1 4 9 (.pointer (some ⟨p,0,none⟩)) rfl hS ?_;simp only [pA,pB,pC,pD];refine x1 5 10 (.pointer (some ⟨p,0,none⟩)) rfl hS ?_;simp only [pA,pB,pC,pD];refine x1 6 11 (.string t) rfl hS ?_;simp only [pA,pB,pC,pD];refine x1 7 12 (.pointer (some ⟨p,0,none⟩)) rfl hS ?_;simp only [pA,pB,pC,pD];refine x1 8 13 (.pointer (some ⟨p,0,none⟩)) rfl hS ?_;simp only [pA,pB,pC,pD];refine x1 9 14 (.pointer (some ⟨p,1,none⟩)) rfl hS ?_;simp only [pA,pB,pC,pD];refine x1 10 15 (.int .i64 k) rfl hS ?_;simp only [pA,pB,pC,pD];refine x1 11 16 (.int .u8 t[k].toNat) rfl hS ?_;simp only [pA,pB,pC,pD];refine x1 12 17 (.int .u8 s.toNat) rfl hS ?_;simp only [pA,pB,pC,pD];refine x1 13 18 (.bool false) rfl hS ?_;simp only [pA,pB,pC,pD];refine x1 14 19 (.bool false) rfl hS ?_;simp only [pA,pB,pC,pD];refine td ?_;obtain ⟨r0,r1,r2⟩:=H5.out;go_wp2_with fail;go_ret;exact ⟨k+1,by rw [HT.out];rfl,by omega,by omega,by rw [HT.out];rfl,H5.out.succ,H6.out.set _ _⟩
  ·have HT:Hid (P.tk s (Ab t i)=none):=by rw [← H3.out];exact jE hlt hc (H4.out hlt)
   have hc':¬ t[k].toNat=s.toNat:=fun e=>hc (UInt8.toNat_inj.1 e)
   have hc2:((t[k].toNat:Int) == (s.toNat:Int))=false:=by simp;omega
   clear hc;refine x1 2 7 (.bool false) rfl hS ?_;simp only [pA,pB,pC,pD];refine x1 3 8 (.pointer (some ⟨p,0,none⟩)) rfl hS ?_;simp only [pA,pB,pC,pD];refine x1 4 9 (.pointer (some ⟨p,0,none⟩)) rfl hS ?_;simp only [pA,pB,pC,pD];refine x1 5 10 (.pointer (some ⟨p,0,none⟩)) rfl hS ?_;simp only [pA,pB,pC,pD];refine x1 6 11 (.string t) rfl hS ?_;simp only [pA,pB,pC,pD];refine x1 7 12 (.pointer (some ⟨p,0,none⟩)) rfl hS ?_;simp only [pA,pB,pC,pD];refine x1 8 13 (.pointer (some ⟨p,0,none⟩)) rfl hS ?_;simp only [pA,pB,pC,pD];refine x1 9 14 (.pointer (some ⟨p,1,none⟩)) rfl hS ?_;simp only [pA,pB,pC,pD];refine x1 10 15 (.int .i64 k) rfl hS ?_;simp only [pA,pB,pC,pD];refine x1 11 16 (.int .u8 t[k].toNat) rfl hS ?_;simp only [pA,pB,pC,pD];refine x1 12 17 (.int .u8 s.toNat) rfl hS ?_;simp only [pA,pB,pC,pD];refine x1 13 18 (.bool true) rfl hS ?_;simp only [pA,pB,pC,pD];refine x1 14 19 (.bool true) rfl hS ?_;simp only [pA,pB,pC,pD];refine td ?_;obtain ⟨r0,r1,r2⟩:=H5.out;go_wp2_with fail;go_ret;exact ⟨k,by rw [HT.out];rfl,k1,k2,by rw [HT.out,H3.out];rfl,H5.out,H6.out⟩
end Go.Proofs.YtpeajnkkdioflaaGreat
