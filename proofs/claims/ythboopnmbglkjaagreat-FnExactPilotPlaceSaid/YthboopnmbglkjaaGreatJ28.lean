import Derived.RangeFuncNested
import Derived.RangeFuncBound
import Derived.RangeFuncCalls
import Derived.RangeFuncLeaves
import Derived.Test.YthboopnmbglkjaaGreatJ27
import Derived.Laws.Externs
set_option maxHeartbeats 8000000
namespace Go.Proofs.YthboopnmbglkjaaGreat
open Tryz
set_option maxRecDepth 100000
open Go.RowKit Tryz
structure B2 (g hb:Nat) (w w':World):Prop where
 os:w'.os=w.os
 tape:w'.tape=w.tape
 output:w'.output=w.output
 size:w.heap.size<=w'.heap.size
 block:∀k,k<w.heap.size->k≠g->k≠hb->w'.heap[k]?=w.heap[k]?
theorem B2.of_below{g hb:Nat}{w w':World}(h:bW w w'):B2 g hb w w':=⟨h.os,h.tape,h.output,h.size,λk hk _ _=>h.block k hk⟩
theorem B2.trans{g hb:Nat}{a b c:World}(h:B2 g hb a b)(k:B2 g hb b c):B2 g hb a c:=⟨k.os.trans h.os,k.tape.trans h.tape,k.output.trans h.output,lT h.size k.size,λi hi h1 h2=>(k.block i (lL hi h.size) h1 h2).trans (h.block i hi h1 h2)⟩
theorem B2.grown{g hb:Nat}{a w w':World}(h:B2 g hb a w)(hg:w.grownBy w' (some g)):B2 g hb a w':=h.trans ⟨hg.os,hg.tape,hg.output,hg.size,λk hk h1 _=>hg.block k hk (λe=>h1 (Option.some.inj e))⟩
theorem B2.set{g hb:Nat}{a w:World}(h:B2 g hb a w){p:Nat}(hp:p=g\/p=hb)(o:Nat)(v:Value):B2 g hb a (w.setCell (E p o) v):=h.trans ⟨rfl,rfl,rfl,by simp,λk _ h1 h2=>Below.heap_setCell _ _ _ _ (λe=>by rcases hp with h|h<;>(rw[h]at e;first|exact h1 e|exact h2 e))⟩
theorem B2.drew{g hb:Nat}{a w:World}(h:B2 g hb a w):B2 g hb a w.drew:=⟨h.os,h.tape,h.output,h.size,h.block⟩
structure KpQ (G:Nat->Prop) (n₀:Nat) (w w':World):Prop where
 os:w'.os=w.os
 tape:w'.tape=w.tape
 output:w'.output=w.output
 size:w.heap.size<=w'.heap.size
 block:∀k,k<n₀->¬G k->w'.heap[k]?=w.heap[k]?
theorem KpQ.refl(G:Nat->Prop)(n₀:Nat)(w:World):KpQ G n₀ w w:=⟨rfl,rfl,rfl,Nat.le_refl _,λ_ _ _=>rfl⟩
theorem KpQ.trans{G:Nat->Prop}{n₀:Nat}{a b c:World}(h:KpQ G n₀ a b)(k:KpQ G n₀ b c):KpQ G n₀ a c :=
 ⟨k.os.trans h.os,k.tape.trans h.tape,k.output.trans h.output,lT h.size k.size,λi hi hp=>(k.block i hi hp).trans (h.block i hi hp)⟩
theorem KpQ.of_below{G:Nat->Prop}{n₀:Nat}{w w':World}(h:bW w w')(hn:n₀<=w.heap.size):KpQ G n₀ w w' :=
 ⟨h.os,h.tape,h.output,h.size,λk hk _=>h.block k (lL hk hn)⟩
theorem KpQ.grown{G:Nat->Prop}{n₀:Nat}{a w w':World}{row:Option Nat}(h:KpQ G n₀ a w)(hg:w.grownBy w' row)(hn:n₀<=w.heap.size)(hr:∀r,row=some r->n₀<=r\/G r):KpQ G n₀ a w' :=
 h.trans ⟨hg.os,hg.tape,hg.output,hg.size,λk hk hG=>hg.block k (by omega) (λe=>by rcases hr k e.symm with h|h;omega;exact hG h)⟩
theorem KpQ.putObj{G:Nat->Prop}{n₀:Nat}(W:World){l:Nat}(o':Obj)(hl:n₀<=l):KpQ G n₀ W (W.putObj l o') :=
 ⟨rfl,rfl,rfl,(grownBy_putObj' W l o').size,λk hk _=>World.putObj_heap_other (by omega)⟩
theorem YieldAt.wide{P:Program}{l m m':Nat}{args:Array Value}{W:World}{R:Ending->World->Prop}(h:YieldAt Fence.wide m P l args W R)(l':Nat):YieldAt (Fence.wide.inRound l') m' P l args W R:=by
 obtain⟨fn,tmps,assign,body,hy,hR⟩:=h;exact⟨fn,tmps,assign,body,hy,trivial,λc cs _=>hR.2 c cs (room_wide _)⟩
theorem Gl{P:Program}{l m n:Nat}{c:Code}{Q:Exit->Act->World->Prop}{a:Act}{w:World}(h:c.wpIn (Fence.wide.inRound l) m P Q a w):c.wpIn (Fence.wide.inRound l) n P Q a w :=
 λb k cs h1 h2 _=>h b k cs h1 h2 (λ_ h=>by cases h)
theorem YieldAt.anyQ{P:Program}{l m m':Nat}{args:Array Value}{W:World}{R:Ending->World->Prop}(h:YieldAt Fence.wide m P l args W R):YieldAt Fence.wide m' P l args W R:=by
 obtain⟨fn,tmps,assign,body,hy,hR⟩:=h;exact⟨fn,tmps,assign,body,hy,trivial,λc cs _=>hR.2 c cs (room_wide _)⟩
theorem HpW.cut{mz:Nat}{x:Flt}{a3:OA}{c3:Nat}{Wb:World}{Bc hb g cap n k:Nat}{l:List Nat}{W:World}(hn:n=l.length)(h:HpW mz x a3 c3 Wb Bc hb (sP g 0 n cap) l W)(hk:k<=l.length):HpW mz x a3 c3 Wb Bc hb (sP g 0 k cap) (l.take k) (W.setCell (E hb 0) (sP g 0 k cap)):=by
 subst hn;obtain⟨n1,n2⟩:=h.n1 g rfl;refine⟨h.bel.setCell (p:=(E hb 0)) h.b1 _,h.box.other (Ne.symm h.n3) _,h.blk.set 0 _,?_,?_,h.n3,h.b1,h.b2⟩
 .have h0:=h.row.kept (w':=W.setCell (E hb 0) (sP g 0 k cap)) (row:=some hb) ⟨rfl,rfl,rfl,by simp,λk _ hne=>Below.heap_setCell _ _ _ _ (λe=>hne (by rw[e]))⟩ (Or.inr (λe=>n1 (Option.some.inj e)))
  rcases h0.2 with⟨h1,_⟩|⟨g',cap',cur,h1,h2,h3,h4,h5,h6,h7⟩
  .cases h1
  cases h1
  have hlk:(l.take k).length=k:=by rw[List.length_take];omega
  refine⟨by simp,.inr ⟨g,cap,cur,by rw[hlk],h2,h3,by rw[hlk];omega,h5,h6,?_⟩⟩;rw[hlk];rw[Nat.mul_one]at h7⊢;have h8:=congrArg (List.take k) h7;rw[List.take_take,Nat.min_eq_left hk]at h8;rw[h8];exact(List.map_take).symm
 intro g' e;cases e
 exact⟨n1,n2⟩
def CE(mz:Nat)(x:Flt)(a3:OA)(c3:Nat)(Wb:World)(Bc hb:Nat)(cf:Nat->Nat->Int)(g cap:Nat)(l:List Nat)(w:World)(e:Ending)(w':World):Prop:=∃l':List Nat,e=.returned (X ((hAt l 0:Nat):Int))/\HpW mz x a3 c3 Wb Bc hb (sP g 0 (l.length-1) cap) l' w'/\l'.length=l.length-1/\Heap (ltF cf) l'/\l'.Perm (Ly l)/\B2 g hb w w'
theorem oA(mz:Nat)(x:Flt)(a3:OA)(c3:Nat)(Wb:World)(Bc hb:Nat)(S:List Nat)(cf:Nat->Nat->Int)(og:LtO (ltF cf))(g n cap:Nat)(l:List Nat)(w:World)(hc:pH mz x a3 c3 Wb Bc S cf)(h:HpW mz x a3 c3 Wb Bc hb (sP g 0 n cap) l w)(hn:n=l.length)(hS:∀b∈l,b∈S)(hh:Heap (ltF cf) l)(h0:0<n)(hs:n<=1000000) :
  Calls prog 110 #[pP hb 0] w λe w'=>CE mz x a3 c3 Wb Bc hb cf g cap l w e w':=by
 have HC:=iH hc;have HH:=iH h;have HSS:=iH hS;have HNL:=iH hn;have HOG:=iH og;have HHP:=iH hh;have hcap:n<=cap:=by
  have h9:=h.row;rw[<-hn]at h9;rcases h9.2 with⟨h1,_⟩|⟨g',cap',cur,h1,_,_,h4,_⟩
  .cases h1
  cases h1
  exact h4
 clear hc h hS hn og hh;obtain⟨m,hm⟩:∃m,n=m+1:=⟨n-1,by omega⟩;subst hm;go_enter func110,ntmps110;go_upto_region 1 with fail;refine wp_region_held_drew (S:=λwy=>HpW mz x a3 c3 Wb Bc hb (sP g 0 (m+1) cap) l wy) (by kernel_rfl) HH.out.drew (λhS=>?_);have HB:Hid (B2 g hb w w.drew):=(B2.of_below (Below.refl _ _)).drew;clear HH;obtain⟨w2,HW2⟩:∃w2,Hid (w2=w.drew):=⟨_,rfl⟩;rw[<-HW2.out]at hS HB⊢;clear HW2;refine tz 0 7 (pP hb 0) ?_;refine tz 1 8 (pP hb 0) ?_;refine tz 2 9 (pP hb 0) ?_;refine tl 3 10 (sP g 0 (m+1) cap) (E hb 0) rfl (λwy hy=>hy.blk.cell rfl) hS ?_;refine x3 4 11 (pP g 0) ?_;refine tl 5 12 (X ((hAt l 0:Nat):Int)) (E g 0) rfl (λwy hy=>Dk HNL (by have:=hy.row;rw[<-HNL.out]at this;exact this) (by have:=HNL.out;omega)) hS ?_;refine tz 6 13 (pP hb 0) ?_;refine tz 7 14 (pP hb 0) ?_;refine tz 8 15 (pP hb 0) ?_;refine tl 9 16 (sP g 0 (m+1) cap) (E hb 0) rfl (λwy hy=>hy.blk.cell rfl) hS ?_;refine tz 10 17 (X ((m+1:Nat):Int)) ?_;refine ty 11 ⟨some 18,_,_,_,_,none⟩ (X ((m:Nat):Int)) ?_ ?_
 .intro wy hy
  clear hy
  (go_simp;try(rw[IntKind.wrap_i64]);try omega)
 refine tz 12 3 (X ((hAt l 0:Nat):Int)) ?_;refine tz 13 4 (X ((m:Nat):Int)) ?_;have HH:=iH hS;refine td ?_;clear hS;go_upto_region 2 with fail;refine wp_region_held_drew (S:=λwy=>Blk hb #[sP g 0 (m+1) cap,.func (.func 106) #[] #[pP Bc 0]] 157 wy) (by kernel_rfl) HH.out.blk.drew (λhS=>?_);replace HH:=iH HH.out.drew;replace HB:=iH HB.out.drew;generalize w2.drew=wn at *;refine tz 0 19 (pP hb 0) ?_;refine tz 1 20 (pP hb 0) ?_;refine tz 2 21 (pP hb 0) ?_;refine tl 3 22 (sP g 0 (m+1) cap) (E hb 0) rfl (λwy hy=>hy.cell rfl) hS ?_;refine tz 4 23 (pP hb 0) ?_;refine tz 5 24 (pP hb 0) ?_;refine tz 6 25 (pP hb 0) ?_;refine tl 7 26 (sP g 0 (m+1) cap) (E hb 0) rfl (λwy hy=>hy.cell rfl) hS ?_;refine tz 8 27 (X ((m:Nat):Int)) ?_;refine x3 9 28 (pP g m) ?_;refine rd1 10 ⟨some 29,_,_,_,_,none⟩ rfl (λKK hKK=>?_);have k9:wn.cell? (E g m)=some (X ((hAt l m:Nat):Int)):=Dk HNL (by have:=HH.out.row;rw[<-HNL.out]at this;exact this) (by have:=HNL.out;omega);go_simp;refine hKK.out _ _ hS (λhS=>?_);clear hKK KK k9;refine x3 11 30 (pP g 0) ?_;refine rd1 12 ⟨none,_,_,_,_,none⟩ rfl (λKK hKK=>?_);have k9:wn.cell? (E g 0)=some (X ((hAt l 0:Nat):Int)):=Dk HNL (by have:=HH.out.row;rw[<-HNL.out]at this;exact this) (by have:=HNL.out;omega);have f9:wn.frozen? (E g 0)=false:=Xf HNL HH.out.row 0;have HH1:=iH (HH.out.set HNL (j:=0) (by have:=HNL.out;omega) (hAt l m));have HB1:Hid (B2 g hb w (wn.setCell (E g 0) (X ((hAt l m:Nat):Int)))):=HB.out.set (.inl rfl) 0 _;go_simp;refine hKK.out _ _ HH1.out.blk (λhS=>?_);clear hKK KK k9 f9 HH HB;generalize wn.setCell (E g 0) (X ((hAt l m:Nat):Int))=wm at *;refine td ?_;clear hS;have HL1:Hid (m+1=(l.set 0 (hAt l m)).length):=by show _=_;rw[List.length_set];exact HNL.out
 have k0:wm.cell? (E hb 0)=some (sP g 0 (m+1) cap):=HH1.out.blk.cell rfl;have f0:wm.frozen? (E hb 0)=false:=HH1.out.blk.frozen 0;have HCE:Hid ((l.set 0 (hAt l m)).take m=Ly l):=by
  show _=_
  unfold Ly;rw[<-HNL.out];rfl
 have HH2:Hid (HpW mz x a3 c3 Wb Bc hb (sP g 0 m cap) (Ly l) (wm.setCell (E hb 0) (sP g 0 m cap))):=by
  have h9:=HH1.out.cut HL1 (k:=m) (by have:=HL1.out;omega);rw[HCE.out]at h9;exact h9
 have HB2:Hid (B2 g hb w (wm.setCell (E hb 0) (sP g 0 m cap))):=HB1.out.set (.inr rfl) 0 _;have hmc:(m:Int)<=(cap:Int):=by omega
 clear HH1 HB1;go_upto_region 4 with fail;clear k0 f0 hmc;generalize wm.setCell (E hb 0) (sP g 0 m cap)=w4 at *;have HD:Hid (HDn (ltF cf) (Ly l) 0):=HDn.of_cut HHP;have HCL:Hid (m=(Ly l).length):=by show _=_;rw[gJ,<-HNL.out];rfl
 have HCS:Hid (∀b∈Ly l,b∈S):=λb hb9=>HSS.out b ((aE (by have:=HNL.out;omega)).subset (List.mem_cons_of_mem _ hb9))
 go_wp2
 go_loopw [5] (λi wr=>∃(p:Nat)(L:List Nat),i=X ((p:Nat):Int)/\p<=m/\Hid (m=L.length)/\Hid (HDn (ltF cf) L p)/\Hid (L.Perm (Ly l))/\Hid (HpW mz x a3 c3 Wb Bc hb (sP g 0 m cap) L wr)/\Hid (B2 g hb w wr)) (λi _=>m-(intOf i).toNat)
 case atStart=>exact⟨0,Ly l,rfl,zL,HCL,HD,List.Perm.refl _,HH2,HB2⟩
 clear HD HH2 HB2;obtain⟨p,L,rfl,hp,HLL,HD,HP,HW,HB⟩:=hrel;have HLS:Hid (∀b∈L,b∈S):=λb hb9=>HCS.out b (HP.out.subset hb9)
 go_wp2_with fail;refine(xO mz x a3 c3 Wb Bc hb S cf HOG g m cap L p _ HC HW HLL HLS hp (by omega)).mono ?_;rintro e w5⟨k,rfl,hk,hle,hb5⟩;have HW5:=iH (HW.out.below hb5);have HB5:Hid (B2 g hb w w5):=HB.out.trans (B2.of_below hb5);have HLE:=iH hle;have HKK:=iH hk;have hkp:p<k:=by omega
 have HKP:Hid ((k-1)/2=p):=by show _=_;omega
 clear hb5 HW HB hle hk;by_cases hge:m<=k
 .have HHE:Hid (Heap (ltF cf) L):=HD.out.stop (λi h1 h2 h3=>by have h9:=HLL.out;have h8:=HKK.out;omega)
  have hgi:(m:Int)<=(k:Int):=by omega
  have HLN:Hid (L.length=l.length-1):=by show _=_;rw[<-HLL.out,<-HNL.out];rfl
  have HWE:Hid (HpW mz x a3 c3 Wb Bc hb (sP g 0 (l.length-1) cap) L w5):=by rw[<-HNL.out];exact HW5.out
  clear HKK hge hkp
  go_wp2
  go_ret;exact⟨L,rfl,HWE,HLN,HHE,HP,HB5⟩
 have hlk:(k:Int)<(m:Int):=by omega
 have hkm:k<m:=by omega
 clear HKK hge;go_wp2_with fail;refine(eD mz x a3 c3 Wb Bc hb S cf g m cap L k p _ HC HW5 HLL HLS hkm (by omega) (by omega)).mono ?_;rintro e w6⟨t,rfl,ht,hH6,hg6⟩;have HB6:Hid (B2 g hb w w6):=HB5.out.grown hg6;clear hg6 HB5 HW5
 cases t with
 | false =>
  have HHE:Hid (Heap (ltF cf) L):=by
   refine HD.out.stop (λi h1 h2 h3=>HOG.out.ntr (HLE i h1 h2 h3) (decide_eq_false (λh8=>?_)));have:=ht.2 h8;cases this
  have HLN:Hid (L.length=l.length-1):=by show _=_;rw[<-HLL.out,<-HNL.out];rfl
  have HWE:Hid (HpW mz x a3 c3 Wb Bc hb (sP g 0 (l.length-1) cap) L w6):=by rw[<-HNL.out];exact hH6
  clear ht hH6
  go_wp2
  go_ret;exact⟨L,rfl,HWE,HLN,HHE,HP,HB6⟩
 |true =>
  have hll:=HLL.out;have HD2:Hid (HDn (ltF cf) (hSw L k p) k):=HDn.step HOG HD (by omega) (by omega) HKP HLE (decide_eq_true (ht.1 rfl));have HP2:Hid ((hSw L k p).Perm (Ly l)):=(iE (by omega) (by omega)).trans HP;have HL2:Hid (m=(hSw L k p).length):=by show _=_;rw[Nm];exact hll
  have HW6:=iH hH6;clear ht hH6 hll
  go_wp2
  go_roundw
  case rel=>exact⟨k,hSw L k p,rfl,by omega,HL2,HD2,HP2,HW6,HB6⟩
  simp[intOf];omega
theorem Xs(a b:BA)(w:World) :
  Calls prog 161 #[Y a,Y b] w λe w'=>e=.returned (X (Lib.compareBytes a.data.toList b.data.toList))/\w'=w:=by
 go_enter func161,ntmps161
 go_wp2
 rw[run_callFunc_extern func177 (by kernel_rfl) (by kernel_rfl) (by kernel_rfl) (e:=Extern.BytealgCompare.compare) (by kernel_rfl),Lib.run_compareString];simp only[Result.andThen];rw[Oper.upon_value]
 go_wp2
 go_ret;exact⟨rfl,rfl⟩
theorem iK(a b:BA)(w:World) :
  Calls prog 138 #[Y a,Y b] w λe w'=>e=.returned (X (Lib.compareBytes a.data.toList b.data.toList))/\w'=w:=by
 go_enter func138,ntmps138;go_wp2_with(go_at_call 161;refine(Xs _ _ _).mono ?_;rintro e w' ⟨rfl,rfl⟩);go_ret;exact⟨rfl,rfl⟩
theorem Ow:∀(a b:List UInt8),(Lib.compareBytes a b=-1/\Op.bytesLess a b=true/\Op.bytesLess b a=false/\a≠b)\/(Lib.compareBytes a b=0/\Op.bytesLess a b=false/\Op.bytesLess b a=false/\a=b)\/(Lib.compareBytes a b=1/\Op.bytesLess a b=false/\Op.bytesLess b a=true/\a≠b)
 |[],[]=>.inr (.inl ⟨rfl,rfl,rfl,rfl⟩)
 |[],_::_=>.inl ⟨rfl,rfl,rfl,by simp⟩
 |_::_,[]=>.inr (.inr ⟨rfl,rfl,rfl,by simp⟩)
 | x::a,y::b=>by
  by_cases h1:x<y
  .have h2:¬y<x:=λh=>UInt8.lt_asymm h1 h
   have h3:¬x=y:=λe=>by subst e;exact UInt8.lt_irrefl _ h1
   have h4:¬y=x:=λe=>h3 e.symm
   exact .inl ⟨by simp[Lib.compareBytes,h1],by simp[Op.bytesLess,h1],by simp[Op.bytesLess,h2,h4],by simp[h3]⟩
  by_cases h2:y<x
  .have h3:¬x=y:=λe=>by subst e;exact UInt8.lt_irrefl _ h2
   have h4:¬y=x:=λe=>h3 e.symm
   exact .inr (.inr ⟨by simp[Lib.compareBytes,h1,h2],by simp[Op.bytesLess,h1,h3],by simp[Op.bytesLess,h2],by simp[h3]⟩)
  have h3:x=y:=UInt8.le_antisymm (UInt8.not_lt.1 h2) (UInt8.not_lt.1 h1);subst h3;have hi:=UInt8.lt_irrefl x;rcases Ow a b with⟨e1,e2,e3,e4⟩|⟨e1,e2,e3,e4⟩|⟨e1,e2,e3,e4⟩
  .exact .inl ⟨by simp[Lib.compareBytes,e1],by simp[Op.bytesLess,e2],by simp[Op.bytesLess,e3],by simp[e4]⟩
  .exact .inr (.inl ⟨by simp[Lib.compareBytes,e1],by simp[Op.bytesLess,e2],by simp[Op.bytesLess,e3],by simp[e4]⟩)
  exact .inr (.inr ⟨by simp[Lib.compareBytes,e1],by simp[Op.bytesLess,e2],by simp[Op.bytesLess,e3],by simp[e4]⟩)
theorem Ri(n:Int)(w:World) :
  Calls prog 160 #[X n] w λe w'=>e=.returned (.bool false)/\w'=w:=by
 go_enter func160,ntmps160
 go_wp2
 go_ret;exact⟨Ab (by simp),rfl⟩
def Rk(a b:Int):Int:=if a<b then -1 else if b<a then 1 else 0
theorem Wh(a b:Int)(w:World) :
  Calls prog 137 #[X a,X b] w λe w'=>e=.returned (X (Rk a b))/\w'=w:=by
 by_cases h1:a<b
 .have HE:Hid (Rk a b=-1):=if_pos h1
  go_enter func137,ntmps137;go_wp2_with(go_at_call 160;refine(Ri _ _).mono ?_;rintro e w' ⟨rfl,rfl⟩);go_ret;exact⟨Al HE.out.symm,rfl⟩
 by_cases h2:b<a
 .have HE:Hid (Rk a b=1):=by show _=_;unfold Rk;rw[if_neg h1,if_pos h2]
  have h3:decide (a<b)=false:=by simpa using h1
  clear h1;go_enter func137,ntmps137;go_wp2_with(go_at_call 160;refine(Ri _ _).mono ?_;rintro e w' ⟨rfl,rfl⟩);go_ret;exact⟨Al HE.out.symm,rfl⟩
 have h3:a=b:=by omega
 subst h3;have HE:Hid (Rk a a=0):=by show _=_;unfold Rk;rw[if_neg h1,if_neg h2]
 clear h1 h2;go_enter func137,ntmps137;go_wp2_with(go_at_call 160;refine(Ri _ _).mono ?_;rintro e w' ⟨rfl,rfl⟩);go_ret;exact⟨Al HE.out.symm,rfl⟩
def ahW(c d:Cpy):Bool:=if d.rank<c.rank then true else if c.rank<d.rank then false else if c.born<d.born then true else if d.born<c.born then false else Op.bytesLess c.name.toList d.name.toList
def or3(a b c:Int):Int:=if a=0 then(if b=0 then c else b)else a
def cmW(c d:Cpy):Int:=or3 (Rk d.rank c.rank) (Rk c.born d.born) (Lib.compareBytes c.name.data.toList d.name.data.toList)
theorem uZ(c d:Cpy):decide (cmW c d<0)=ahW c d:=by
 unfold cmW or3 Rk ahW;by_cases h1:d.rank<c.rank
 .simp[h1]
 by_cases h2:c.rank<d.rank
 .simp[h1,h2]
 by_cases h3:c.born<d.born
 .simp[h1,h2,h3]
 by_cases h4:d.born<c.born
 .simp[h1,h2,h3,h4]
 simp only[h1,h2,h3,h4,if_false,if_true];have e:∀b:BA,b.toList=b.data.toList:=λb=>ByteArray.toList_eq b
 rw[e,e];rcases Ow c.name.data.toList d.name.data.toList with⟨e1,e2,_⟩|⟨e1,e2,_⟩|⟨e1,e2,_⟩<;>rw[e1,e2]<;>decide
theorem xV(c:Cpy):ahW c c=false:=by
 unfold ahW;rw[if_neg (by omega),if_neg (by omega),if_neg (by omega),if_neg (by omega)];exact cP _
theorem yY{a b c:Cpy}(h1:ahW a b=true)(h2:ahW b c=true):ahW a c=true:=by
 unfold ahW at *;by_cases p1:c.rank<a.rank
 .rw[if_pos p1]
 rw[if_neg p1];by_cases p2:a.rank<c.rank
 .exfalso
  by_cases q1:b.rank<a.rank
  .rw[if_neg (show ¬c.rank<b.rank by omega),if_pos (show b.rank<c.rank by omega)]at h2;cases h2
  rw[if_neg q1]at h1;by_cases q2:a.rank<b.rank
  .rw[if_pos q2]at h1;cases h1
  rw[if_neg (show ¬c.rank<b.rank by omega),if_pos (show b.rank<c.rank by omega)]at h2;cases h2
 rw[if_neg p2];have hb1:¬b.rank<a.rank:=λh=>by rw[if_neg (show ¬c.rank<b.rank by omega),if_pos (show b.rank<c.rank by omega)]at h2;cases h2
 have hb2:¬a.rank<b.rank:=λh=>by rw[if_neg hb1,if_pos h]at h1;cases h1
 rw[if_neg hb1,if_neg hb2]at h1;rw[if_neg (show ¬c.rank<b.rank by omega),if_neg (show ¬b.rank<c.rank by omega)]at h2;by_cases r1:a.born<b.born
 .by_cases r2:b.born<c.born
  .rw[if_pos (by omega)]
  rw[if_neg r2]at h2;by_cases r3:c.born<b.born
  .rw[if_pos r3]at h2;cases h2
  rw[if_pos (by omega)]
 rw[if_neg r1]at h1;by_cases r4:b.born<a.born
 .rw[if_pos r4]at h1;cases h1
 rw[if_neg r4]at h1;by_cases r2:b.born<c.born
 .rw[if_pos (by omega)]
 rw[if_neg r2]at h2;by_cases r3:c.born<b.born
 .rw[if_pos r3]at h2;cases h2
 rw[if_neg r3]at h2;rw[if_neg (by omega),if_neg (by omega)];exact uL _ _ _ h1 h2
theorem zZ{a b:List UInt8}(h1:Op.bytesLess a b=false)(h2:Op.bytesLess b a=false):a=b:=by
 rcases Ow a b with⟨_,e,_⟩|⟨_,_,_,e⟩|⟨_,_,e,_⟩
 .rw[e]at h1;cases h1
 .exact e
 rw[e]at h2;cases h2
theorem gM{s t:BA}(h:s.toList=t.toList):s=t:=by
 rw[ByteArray.toList_eq,ByteArray.toList_eq]at h;exact ByteArray.ext (Array.toList_inj.1 h)
theorem wW{a b:Cpy}(h1:ahW a b=false)(h2:ahW b a=false):a.name=b.name:=by
 unfold ahW at *;by_cases p1:b.rank<a.rank
 .rw[if_pos p1]at h1;cases h1
 by_cases p2:a.rank<b.rank
 .rw[if_pos p2]at h2;cases h2
 rw[if_neg p1,if_neg p2]at h1;rw[if_neg p2,if_neg p1]at h2;by_cases q1:a.born<b.born
 .rw[if_pos q1]at h1;cases h1
 by_cases q2:b.born<a.born
 .rw[if_pos q2]at h2;cases h2
 rw[if_neg q1,if_neg q2]at h1;rw[if_neg q2,if_neg q1]at h2;have:=zZ h1 h2;exact gM this
def cfQ(x:Flt)(a b:Nat):Int:=match x.copies[a]?,x.copies[b]? with
 |some c,some d=>cmW c d
 |some _,none=>-1
 |none,some _=>1
 |none,none=>Rk a b
theorem ltQ(x:Flt)(hc:AscN (cpN x)):LtO (ltF (cfQ x)):=by
 have key:∀a b,ltF (cfQ x) a b=match x.copies[a]?,x.copies[b]? with
   |some c,some d=>ahW c d
   |some _,none=>true
   |none,some _=>false
   |none,none=>decide (a<b):=by
  intro a b;unfold ltF cfQ
  cases x.copies[a]? with
  |some c =>
   cases x.copies[b]? with
   |some d=>exact uZ c d
   |none=>rfl
  | none =>
   cases x.copies[b]? with
   |some d=>rfl
   | none =>
    simp only;unfold Rk;by_cases h:a<b
    .have h':(a:Int)<(b:Int):=by omega
     simp[h,h']
    have h':¬(a:Int)<(b:Int):=by omega
    by_cases h2:(b:Int)<(a:Int)<;>simp[h,h',h2]
 constructor
 .intro a
  rw[key]
  cases x.copies[a]? with
  |some c=>exact xV c
  |none=>simp
 .intro a b c h1 h2
  rw[key]at *
  cases ha:x.copies[a]? with
  | some ca =>
   rw[ha]at h1
   cases hcc:x.copies[c]? with
   |none=>rfl
   | some cc =>
    rw[hcc]at h2
    cases hb:x.copies[b]? with
    |none=>rw[hb]at h2;cases h2
    |some cb =>
     rw[hb]at h1 h2;exact yY h1 h2
  | none =>
   rw[ha]at h1
   cases hb:x.copies[b]? with
   |some cb=>rw[hb]at h1;cases h1
   | none =>
    rw[hb]at h1 h2
    cases hcc:x.copies[c]? with
    |some cc=>rw[hcc]at h2;cases h2
    |none =>
     rw[hcc]at h2;simp at *;omega
 intro a b h1 h2;rw[key]at *
 cases ha:x.copies[a]? with
 | some ca =>
  rw[ha]at h1 h2
  cases hb:x.copies[b]? with
  |none=>rw[hb]at h1;cases h1
  |some cb =>
   rw[hb]at h1 h2;have hn:=wW h1 h2;have h3:(cpN x)[a]?=some ca.name:=Fl ha;have h4:(cpN x)[b]?=some ca.name:=by rw[hn];exact Fl hb
   exact hc.inj h3 h4
 | none =>
  rw[ha]at h1 h2
  cases hb:x.copies[b]? with
  |some cb=>rw[hb]at h2;cases h2
  |none =>
   rw[hb]at h1 h2;simp at *;omega
theorem dE{lo:Nat}{w:World}{b o:Nat}{c:Cpy}(h:CpyC lo w (λi=>w.cell? (E b (o+i))) c):∃(la:OA)(lc:Nat),w.rangeAt b o (ccL c la lc):=by
 obtain⟨a7,c7,q0,q1,q2,q3,q4,q5,q6,q7,q8,q9,q10,q11,_⟩:=h;refine⟨a7,c7,?_⟩;intro j v hj;have hjl:j<12:=by have:=Af hj;simpa using this
 have hc:j=0\/j=1\/j=2\/j=3\/j=4\/j=5\/j=6\/j=7\/j=8\/j=9\/j=10\/j=11:=by omega
 rcases hc with rfl|rfl|rfl|rfl|rfl|rfl|rfl|rfl|rfl|rfl|rfl|rfl<;>(cases hj;assumption)
theorem jR(a b c:Int)(g:Nat)(w:World)(h0:w.cell? (E g 0)=some (X a))(h1:w.cell? (E g 1)=some (X b))(h2:w.cell? (E g 2)=some (X c)) :
  Calls prog 136 #[sP g 0 3 3] w λe w'=>e=.returned (X (or3 a b c))/\w'=w:=by
 go_enter func136,ntmps136;go_wp2_with fail
 go_loop [8] (λi=>∃k:Nat,i=X k/\Hid (k=0\/(k=1/\a=0)\/(k=2/\a=0/\b=0)\/(k=3/\a=0/\b=0/\c=0))) (λi=>3-(intOf i).toNat)
 case atStart=>exact⟨0,rfl,.inl rfl⟩
 obtain⟨k,rfl,HC⟩:=hrel;rcases HC.out with e|⟨e,ca⟩|⟨e,ca,cb⟩|⟨e,ca,cb,cc⟩
 .subst e
  by_cases ha:a=0
  .have hb:(a==0)=true:=by simpa using ha
   have HA:=iH ha;clear ha;go_wp2_with fail
   go_round
   case rel=>exact⟨1,rfl,.inr (.inl ⟨rfl,HA⟩)⟩
   simp[intOf]
  have HE:Hid (or3 a b c=a):=if_neg ha;have hb:(a==0)=false:=by simpa using ha
  go_wp2
  go_ret;exact⟨Al HE.out.symm,rfl⟩
 .subst e
  have HA:=iH ca;clear ca;by_cases hb:b=0
  .have hb2:(b==0)=true:=by simpa using hb
   have HB:=iH hb;clear hb;go_wp2_with fail
   go_round
   case rel=>exact⟨2,rfl,.inr (.inr (.inl ⟨rfl,HA,HB⟩))⟩
   simp[intOf]
  have hb2:(b==0)=false:=by simpa using hb
  have HO:Hid (or3 a b c=b):=by show _=_;unfold or3;rw[if_pos HA.out,if_neg hb]
  go_wp2
  go_ret;exact⟨Al HO.out.symm,rfl⟩
 .subst e
  have HA:=iH ca;have HB:=iH cb;have HO:Hid (or3 a b c=c):=by show _=_;unfold or3;rw[if_pos ca,if_pos cb]
  clear ca cb;by_cases hb:c=0
  .have hb2:(c==0)=true:=by simpa using hb
   have HB2:=iH hb;clear hb;go_wp2_with fail
   go_round
   case rel=>exact⟨3,rfl,.inr (.inr (.inr ⟨rfl,HA,HB,HB2⟩))⟩
   simp[intOf]
  have hb2:(c==0)=false:=by simpa using hb
  go_wp2
  go_ret;exact⟨Al HO.out.symm,rfl⟩
 subst e;have HO:Hid (or3 a b c=0):=by show _=_;unfold or3;rw[if_pos ca,if_pos cb,cc]
 clear ca cb cc
 go_wp2
 go_ret;exact⟨Al HO.out.symm,rfl⟩
theorem gF(c d:Cpy)(la:OA)(lc:Nat)(ld:OA)(ldc:Nat)(w:World) :
  Calls prog 107 #[.agg (ccA c la lc),.agg (ccA d ld ldc)] w (Rt (X (cmW c d)) w):=by
 have HXa:=Blk.alloc w (ccA c la lc) 54;have HY1:=al2 w (ccA c la lc) 54 (ccA d ld ldc) 54;have HX1:=iH (HXa.below ((Below.refl _ _).alloc nL (Obj.cells (ccA d ld ldc) 54)) HXa.lt);have hB1:=bl2 w (ccA c la lc) 54 (ccA d ld ldc) 54;clear HXa;go_enter func107,ntmps107;go_upto_region 1 with fail;generalize(w.alloc (Obj.cells (ccA c la lc) 54)).alloc (Obj.cells (ccA d ld ldc) 54)=w1 at *;refine wp_region_held_drew (S:=λwy=>Blk w.heap.size (ccA c la lc) 54 wy/\Blk (w.heap.size+1) (ccA d ld ldc) 54 wy) (by kernel_rfl) ⟨HX1.out.drew,HY1.out.drew⟩ (λhS=>?_);have hB2:bW w w1.drew:=hB1.drew;clear HX1 HY1 hB1;generalize w1.drew=w2 at *;refine tz 0 5 (pP (w.heap.size+1) 2) ?_;refine tl 1 6 (X d.rank) (E (w.heap.size+1) 2) rfl (λwy hy=>hy.2.cell rfl) hS ?_;refine tz 2 7 (pP w.heap.size 2) ?_;refine tl 3 8 (X c.rank) (E w.heap.size 2) rfl (λwy hy=>hy.1.cell rfl) hS ?_;refine tz 5 10 (pP w.heap.size 3) ?_;refine tl 6 11 (X c.born) (E w.heap.size 3) rfl (λwy hy=>hy.1.cell rfl) hS ?_;refine tz 7 12 (pP (w.heap.size+1) 3) ?_;refine tl 8 13 (X d.born) (E (w.heap.size+1) 3) rfl (λwy hy=>hy.2.cell rfl) hS ?_;refine tz 10 15 (pP w.heap.size 0) ?_;refine tl 11 16 (Y c.name) (E w.heap.size 0) rfl (λwy hy=>hy.1.cell rfl) hS ?_;refine tz 12 17 (pP (w.heap.size+1) 0) ?_;refine tl 13 18 (Y d.name) (E (w.heap.size+1) 0) rfl (λwy hy=>hy.2.cell rfl) hS ?_;refine rd1 4 ⟨some 9,_,_,_,_,none⟩ rfl (λK hK=>?_);go_simp;refine(Wh d.rank c.rank _).mono ?_;rintro e w9⟨rfl,rfl⟩;refine hK.out _ _ hS (λhS=>?_);clear hK K;refine rd1 9 ⟨some 14,_,_,_,_,none⟩ rfl (λK hK=>?_);go_simp;refine(Wh c.born d.born _).mono ?_;rintro e w9⟨rfl,rfl⟩;refine hK.out _ _ hS (λhS=>?_);clear hK K;refine rd1 14 ⟨some 19,_,_,_,_,none⟩ rfl (λK hK=>?_);go_simp;refine(iK c.name d.name _).mono ?_;rintro e w9⟨rfl,rfl⟩;refine hK.out _ _ hS (λhS=>?_);clear hK K;generalize hca:Rk d.rank c.rank=ca at *;generalize hcb:Rk c.born d.born=cb at *;generalize hcd:Lib.compareBytes c.name.data.toList d.name.data.toList=cd at *;have HCA:=iH hca;have HCB:=iH hcb;have HCD:=iH hcd;clear hca hcb hcd;refine rd1 15 ⟨some 20,_,_,_,_,none⟩ rfl (λK hK=>?_);go_simp;have HS3:=iH (Blk.alloc w9 #[X ca,X cb,X cd] 3);have hB3:bW w (w9.alloc (Obj.cells #[X ca,X cb,X cd] 3)):=hB2.alloc hB2.size _;refine hK.out _ _ ⟨hS.1.below ((Below.refl _ w9).alloc nL _) hS.1.lt,hS.2.below ((Below.refl _ w9).alloc nL _) hS.2.lt⟩ (λhS=>?_);clear hK K hB2;generalize w9.alloc (Obj.cells #[X ca,X cb,X cd] 3)=w5 at *;generalize w9.heap.size=g at *;refine rd1 16 ⟨some 21,_,_,_,_,none⟩ rfl (λK hK=>?_);go_simp;refine(jR ca cb cd g _ (HS3.out.cell rfl) (HS3.out.cell rfl) (HS3.out.cell rfl)).mono ?_;rintro e w6⟨rfl,rfl⟩;refine hK.out _ _ hS (λhS=>?_);clear hK K;refine tz 17 4 (X (or3 ca cb cd)) ?_;refine td ?_;clear hS
 go_wp2
 go_ret;exact⟨Al (by unfold cmW;rw[HCA.out,HCB.out,HCD.out]),hB3⟩
theorem gN(mz:Nat)(x:Flt)(a3:OA)(c3 lo:Nat)(Wb:World)(Bc:Nat)(n3:sC lo Wb a3 x.copies)(hmz:∀o v,Wb.cell? (E mz o)≠some v):pH mz x a3 c3 Wb Bc (List.range x.copies.length) (cfQ x):=by
 intro w hq a ha b hb;have hal:=List.mem_range.1 ha;have hbl:=List.mem_range.1 hb;obtain⟨c,hc⟩:=gXe hal;obtain⟨d,hd⟩:=gXe hbl;have HE:Hid (cfQ x a b=cmW c d):=by show _=_;unfold cfQ;rw[hc,hd]
 obtain⟨b3,o3,rfl,_,hb3,hcc⟩:=n3.at hc;obtain⟨b3',o3',e,_,_,hcd⟩:=n3.at hd;cases e
 obtain⟨la,lc,hr1⟩:=dE hcc;obtain⟨ld,ldc,hr2⟩:=dE hcd;have hbz:b3≠mz:=λe=>hmz _ _ (by rw[<-e];exact hr1 0 _ rfl)
 have HR1:Hid (∀wy,QK mz x (O b3 o3) c3 Wb Bc wy->wy.rangeAt b3 (o3+a*12) (ccL c la lc)):=λwy hy j v hj=>(hy.1.cell (p:=(E b3 (o3+a*12+j))) hb3 hbz).trans (hr1 j v hj)
 have HR2:Hid (∀wy,QK mz x (O b3 o3) c3 Wb Bc wy->wy.rangeAt b3 (o3+b*12) (ccL d ld ldc)):=λwy hy j v hj=>(hy.1.cell (p:=(E b3 (o3+b*12+j))) hb3 hbz).trans (hr2 j v hj)
 have HQ:=iH hq;clear hq ha hb hc hd hcc hcd hr1 hr2 n3;go_enter func106,ntmps106;go_upto_region 1 with fail;refine wp_region_held_drew (S:=λwy=>QK mz x (O b3 o3) c3 Wb Bc wy) (by kernel_rfl) ⟨HQ.out.1.drew,HQ.out.2.drew⟩ (λhS=>?_);have hB2:bW w w.drew:=(Below.refl _ _).drew;clear HQ;obtain⟨w2,HW2⟩:∃w2,Hid (w2=w.drew):=⟨_,rfl⟩;rw[<-HW2.out]at hS hB2⊢;clear HW2;refine tl 0 6 (sP b3 o3 x.copies.length c3) (E Bc 0) rfl (λwy hy=>hy.2.cell rfl) hS ?_;refine tz 1 7 (X ((a:Nat):Int)) ?_;refine x3 2 8 (pP b3 (o3+a*12)) ?_;refine tk 3 ⟨some 9,_,_,_,_,none⟩ (.agg (ccA c la lc)) rfl (yieldsIf_load_mid (by rfl) _ _ rfl b3 (o3+a*12) rfl (ccL c la lc) _ (λ_ h=>HR1.out _ h) underlying54 rfl Bz) hS ?_;refine tl 4 10 (sP b3 o3 x.copies.length c3) (E Bc 0) rfl (λwy hy=>hy.2.cell rfl) hS ?_;refine tz 5 11 (X ((b:Nat):Int)) ?_;refine x3 6 12 (pP b3 (o3+b*12)) ?_;refine tk 7 ⟨some 13,_,_,_,_,none⟩ (.agg (ccA d ld ldc)) rfl (yieldsIf_load_mid (by rfl) _ _ rfl b3 (o3+b*12) rfl (ccL d ld ldc) _ (λ_ h=>HR2.out _ h) underlying54 rfl Bz) hS ?_;refine rd1 8 ⟨some 14,_,_,_,_,none⟩ rfl (λK hK=>?_);go_simp;refine(gF c d la lc ld ldc _).mono ?_;rintro e w3⟨rfl,hb3⟩;have hB3:=qTr hB2 hb3;refine hK.out _ _ ⟨hS.1.trans (hb3.mono hS.1.size),hS.2.below hb3 hS.2.lt⟩ (λhS=>?_);clear hK K;refine tz 9 5 (X (cmW c d)) ?_;refine td ?_;clear hS
 go_wp2
 go_ret;exact⟨Al HE.out.symm,hB3⟩
end Go.Proofs.YthboopnmbglkjaaGreat
