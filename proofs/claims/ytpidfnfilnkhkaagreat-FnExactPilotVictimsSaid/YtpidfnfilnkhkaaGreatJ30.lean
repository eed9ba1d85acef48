import Derived.Test.YtpidfnfilnkhkaaGreatJ29
set_option maxHeartbeats 2000000
set_option maxRecDepth 100000
namespace Go.Proofs.YtpidfnfilnkhkaaGreat
open Go.RowKit Tryz
abbrev yF:List Value:=[.int .i64 2,.func (.func 137) #[] #[],.int .i64 3,.func (.func 138) #[] #[],.int .i64 4,.func (.func 139) #[] #[],.int .i64 5,.func (.func 140) #[] #[],.int .i64 6,.func (.func 141) #[] #[],.int .i64 7,.func (.func 142) #[] #[],.int .i64 8,.func (.func 143) #[] #[]]
abbrev Fh:List Value:=[.int .i64 1,.func (.func 117) #[] #[],.int .i64 2,.func (.func 137) #[] #[],.int .i64 3,.func (.func 138) #[] #[],.int .i64 4,.func (.func 139) #[] #[],.int .i64 5,.func (.func 140) #[] #[],.int .i64 6,.func (.func 141) #[] #[],.int .i64 7,.func (.func 142) #[] #[],.int .i64 8,.func (.func 143) #[] #[]]
theorem qW(w:World) :
  Calls prog 116 #[] w λe w'=>e=.returned (.slice (some ⟨w.heap.size,0,none⟩) 7 7)/\w'.rangeAt w.heap.size 0 yF/\w.heap.size<w'.heap.size/\Below w.heap.size w w':=by
 go_enter func116,ntmps116
 go_wp2
 go_ret;refine⟨rfl,?_,?_,?_⟩
 .exact Aa (by simp) (Aa (by simp) (Aa (by simp) (Aa (by simp) (Aa (by simp) (Aa (by simp) (Aa (by simp) (Aa (by simp) (Aa (by simp) (Aa (by simp) (Aa (by simp) (Aa (by simp) (Aa (by simp) (Aa (by simp) (Ao _ _ _))))))))))))))
 .simp
 .go_grown
theorem Ze(w:World) :
  Calls prog 81 #[] w λe w'=>∃g G,e=.returned (.slice (some ⟨g,0,none⟩) 8 G)/\w'.rangeAt g 0 Fh/\w.heap.size<=g/\g<w'.heap.size/\Below w.heap.size w w'/\(∀j,w'.frozen? ⟨g,j,none⟩=false)/\8<=G:=by
 go_enter func81,ntmps81;go_wp2_with fail;refine(qW _).mono ?_;rintro e w1⟨rfl,hr,hs,hb⟩;have HR:=iH hr;have HB:=iH hb;clear hr hb;go_wp2_with fail;have hb2:=(Below.refl _ w1).alloc nL (Obj.cells #[.int .i64 1,.func (.func 117) #[] #[]] 143);refine(Sd w.heap.size w1.heap.size yF [.int .i64 1,.func (.func 117) #[] #[]] _ rfl rfl ?_ ?_ ?_ ?_).mono ?_
 .intro j v hj
  rw[hb2.cell (p:=⟨w.heap.size,j,none⟩) hs];have:=HR.out j v hj
  rwa [Nat.zero_add]at this
 .have hq:(w1.alloc (Obj.cells #[.int .i64 1,.func (.func 117) #[] #[]] 143)).rangeAt w1.heap.size 0 [.int .i64 1,.func (.func 117) #[] #[]]:=Aa (by simp) (Aa (by simp) (Ao _ _ _))
  intro j v hj;have:=hq j v hj
  rwa [Nat.zero_add]at this
 .intro v hv
  simp at hv;rcases hv with rfl|rfl|rfl|rfl|rfl|rfl|rfl|rfl|rfl|rfl|rfl|rfl|rfl|rfl<;>rfl
 .intro v hv
  simp at hv;rcases hv with rfl|rfl<;>rfl
 rintro e w3⟨G,rfl,hr3,hs3,hb3,hf3,hG8⟩;have HB3:=iH (HB.out.trans ((hb2.trans (hb3.mono (by simp))).mono HB.out.size));have hq:(w1.alloc (Obj.cells #[.int .i64 1,.func (.func 117) #[] #[]] 143)).heap.size=w1.heap.size+1:=by simp
 rw[hq]at hr3 hs3 hf3;have HR3:=iH hr3;have hsz:w.heap.size<=w1.heap.size+1:=by have:=HB.out.size;omega
 clear hr3 hb3 hb2
 go_wp2
 go_ret;exact⟨_,G,rfl,HR3,hsz,hs3,HB3,hf3,hG8⟩
theorem uL(w:World) :
  Calls prog 81 #[] w λe w'=>∃g G,e=.returned (.slice (some ⟨g,0,none⟩) 8 G)/\w'.rangeAt g 0 Fh/\w.heap.size<=g/\g<w'.heap.size/\Below w.heap.size w w' :=
 (Ze w).mono λ_ _ ⟨g,G,h1,h2,h3,h4,h5,_⟩=>⟨g,G,h1,h2,h3,h4,h5⟩
open Go.WideMaps Go.Maps Tryz
def cT(x:Flt)(ci:Nat)(y:Cpy)(b:Brt)(u1 u2 u3:Int):List (Int×Nat×Bool):=[(2,137,Hn y b),(3,138,!Dg y.select b.marks b.zone),(4,139,Gn x ci y b),(5,140,Fq x ci y b),(6,141,decide (10<=u1)),(7,142,decide (b.room<u2+y.room)),(8,143,decide (b.hold<u3+y.hold))]
def Kh(x:Flt)(ci:Nat)(y:Cpy)(b:Brt)(u1 u2 u3:Int):List (Int×Nat×Bool):=(1,117,b.closed)::cT x ci y b u1 u2 u3
theorem iR{x:Flt}{ci:Nat}{y:Cpy}{b:Brt}{u1 u2 u3:Int}(h1:u1=Ba x ci b.name x.copies.length)(h2:u2=Bn x ci b.name x.copies.length)(h3:u3=Bq x ci b.name x.copies.length):Fw (Kh x ci y b u1 u2 u3)=Ed x ci y b false:=by
 unfold Kh cT Ed;simp only[Fw,decide_eq_true_eq,Bool.not_eq_true',Bool.not_false,Bool.and_true];rw[h1,h2,h3]
theorem Pt{f:Nat}{t:Bool}(W:World)(_lo p m1 m2 m3 m4 ci bi:Nat)(x:Flt)(a1:OA)(c1:Nat)(a2:OA)(c2:Nat)(a3:OA)(c3:Nat)(y:Cpy)(a7:OA)(c7:Nat)(b:Brt)(am:OA)(cm:Nat)(u1 u2 u3:Int)(h:∀w,Calls prog f #[.agg (Ai p ci bi y a7 c7 b am cm u1 u2 u3)] w λe w'=>e=.returned (.bool t)/\Below w.heap.size w w'):mU f t W p m1 m2 m3 m4 ci bi x a1 c1 a2 c2 a3 c3 y a7 c7 b am cm u1 u2 u3 :=
 λw _ hF=>(h w).mono (λ_ _ ⟨he,hb⟩=>⟨he,hF.memo.below hb hF.memo.lt,But.of_below hb⟩)
theorem Yn(W:World)(lo p m1 m2 m3 m4 ci bi:Nat)(x:Flt)(a1:OA)(c1:Nat)(a2:OA)(c2:Nat)(a3:OA)(c3:Nat)(y:Cpy)(a7:OA)(c7:Nat)(b:Brt)(am:OA)(cm:Nat)(u1 u2 u3:Int)(hK:SpotK W lo ci bi x a1 a3 y a7 b am)(h1:0<=u2/\u2<=60000)(h2:0<=u3/\u3<=60000):∀r,r∈Kh x ci y b u1 u2 u3->mU r.2.1 r.2.2 W p m1 m2 m3 m4 ci bi x a1 c1 a2 c2 a3 c3 y a7 c7 b am cm u1 u2 u3:=by
 have hk:=hK;obtain⟨_,n3,_,_,hv,hy,_⟩:=hk;obtain⟨_,_,_,_,_,hc⟩:=n3.at hy;obtain⟨a8,c8,q0,q1,q2,q3,q4,q5,q6,q7,q8,q9,q10,q11,z0,z1,z6,z9,z10,z11,z7⟩:=hc;have hr:=((Bb hv).2.2.2 ci y hy).1;have hh:=((De hv).1 ci y hy).1;intro r hr';unfold Kh cT at hr';simp only[List.mem_cons,List.not_mem_nil,or_false]at hr';rcases hr' with rfl|rfl|rfl|rfl|rfl|rfl|rfl|rfl
 .exact Pt W lo p m1 m2 m3 m4 ci bi x a1 c1 a2 c2 a3 c3 y a7 c7 b am cm u1 u2 u3 (jX p ci bi y a7 c7 b am cm u1 u2 u3)
 .exact Pt W lo p m1 m2 m3 m4 ci bi x a1 c1 a2 c2 a3 c3 y a7 c7 b am cm u1 u2 u3 (Ws p ci bi y a7 c7 b am cm u1 u2 u3)
 .exact jW W lo p m1 m2 m3 m4 ci bi x a1 c1 a2 c2 a3 c3 y a7 c7 b am cm u1 u2 u3 hK z6
 .exact Zv W lo p m1 m2 m3 m4 ci bi x a1 c1 a2 c2 a3 c3 y a7 c7 b am cm u1 u2 u3 hK
 .exact lF W lo p m1 m2 m3 m4 ci bi x a1 c1 a2 c2 a3 c3 y a7 c7 b am cm u1 u2 u3 hK
 .exact Pt W lo p m1 m2 m3 m4 ci bi x a1 c1 a2 c2 a3 c3 y a7 c7 b am cm u1 u2 u3 (uR p ci bi y a7 c7 b am cm u1 u2 u3)
 .exact Pt W lo p m1 m2 m3 m4 ci bi x a1 c1 a2 c2 a3 c3 y a7 c7 b am cm u1 u2 u3 (λw=>aH p ci bi y a7 c7 b am cm u1 u2 u3 w h1.1 h1.2 hr.1 hr.2)
 .exact Pt W lo p m1 m2 m3 m4 ci bi x a1 c1 a2 c2 a3 c3 y a7 c7 b am cm u1 u2 u3 (λw=>bK p ci bi y a7 c7 b am cm u1 u2 u3 w h2.1 h2.2 hh.1 hh.2)
theorem Rx(x:Flt)(ci:Nat)(y:Cpy)(b:Brt)(u1 u2 u3:Int):∀r,r∈Kh x ci y b u1 u2 u3->∀args w,(callFunc r.2.1 args).run prog w=.ok (.enter r.2.1 args) w:=by
 intro r hr';unfold Kh cT at hr';simp only[List.mem_cons,List.not_mem_nil,or_false]at hr';rcases hr' with rfl|rfl|rfl|rfl|rfl|rfl|rfl|rfl
 .exact enters_of func117 (by kernel_rfl) rfl
 .exact enters_of func137 (by kernel_rfl) rfl
 .exact enters_of func138 (by kernel_rfl) rfl
 .exact enters_of func139 (by kernel_rfl) rfl
 .exact enters_of func140 (by kernel_rfl) rfl
 .exact enters_of func141 (by kernel_rfl) rfl
 .exact enters_of func142 (by kernel_rfl) rfl
 .exact enters_of func143 (by kernel_rfl) rfl
theorem iQ{rb:Nat}{w:World}(x:Flt)(ci:Nat)(y:Cpy)(b:Brt)(u1 u2 u3:Int)(h:w.rangeAt rb 0 Fh):qQ rb (Kh x ci y b u1 u2 u3) w:=by
 intro k r hk;have hk8:k<8:=(List.getElem?_eq_some_iff.1 hk).1;have hc:k=0\/k=1\/k=2\/k=3\/k=4\/k=5\/k=6\/k=7:=by omega
 rcases hc with rfl|rfl|rfl|rfl|rfl|rfl|rfl|rfl
 .cases hk
  exact⟨by simpa using h 0 _ rfl,by simpa using h 1 _ rfl⟩
 .cases hk
  exact⟨by simpa using h 2 _ rfl,by simpa using h 3 _ rfl⟩
 .cases hk
  exact⟨by simpa using h 4 _ rfl,by simpa using h 5 _ rfl⟩
 .cases hk
  exact⟨by simpa using h 6 _ rfl,by simpa using h 7 _ rfl⟩
 .cases hk
  exact⟨by simpa using h 8 _ rfl,by simpa using h 9 _ rfl⟩
 .cases hk
  exact⟨by simpa using h 10 _ rfl,by simpa using h 11 _ rfl⟩
 .cases hk
  exact⟨by simpa using h 12 _ rfl,by simpa using h 13 _ rfl⟩
 .cases hk
  exact⟨by simpa using h 14 _ rfl,by simpa using h 15 _ rfl⟩
theorem PlOk.step{ns gone:List BA}{k:Nat}{pl:List Nat}{g:BA}{q:Nat}(h:PlOk ns gone k pl)(hg:gone[k]?=some g)(hq:Al ns g ns.length=some q):PlOk ns gone (k+1) (pl++[q]):=by
 refine⟨by simp[h.1],λj g' hj hj'=>?_⟩;by_cases e:j=k
 .subst e
  rw[hg]at hj';cases hj'
  exact⟨q,by rw[List.getElem?_append_right (by rw[h.1];omega),h.1];simp,hq⟩
 .obtain⟨p,h1,h2⟩:=h.2 j g' (by omega) hj'
  exact⟨p,by rw[List.getElem?_append_left (by rw[h.1];omega)];exact h1,h2⟩
theorem Wx{w:World}{sb:Nat}{v:Value}(h:w.cell? ⟨sb,0,none⟩=some v):∀j u,[v][j]?=some u->w.cell? ((⟨sb,0,none⟩:Addr).add j)=some u:=by
 intro j u hu
 cases j with
 |zero=>simp at hu;subst hu;simpa[Addr.add]using h
 |succ j=>simp at hu
abbrev inV(is:List Int):List Value:=is.map (Value.int .i64)
theorem AE{is:List Int}{j:Nat}{u:Value}(h:(inV is)[j]?=some u):∃i,is[j]?=some i/\u=.int .i64 i:=by
 rw[List.getElem?_map]at h
 cases e:is[j]? with
 |none=>rw[e]at h;cases h
 |some i=>rw[e]at h;cases h;exact⟨i,rfl,rfl⟩
theorem Ss(is:List Int):∀u∈inV is,u.oneCell'=true:=by
 intro u hu;obtain⟨i,_,rfl⟩:=List.mem_map.1 hu;rfl
theorem lN(is:List Int)(k:Nat)(v:Int):(inV is).set k (.int .i64 v)=inV (is.set k v):=by
 simp[inV,List.map_set]
theorem Vs{ns:List BA}{m n l:Nat}{w:World}{s:BA}(h:w.ownsMap prog 9 (plainElem prog 3) m n (Ah ns l))(hs:s.size<=maxLen) :
  (Instr.lookup 64 (.map (some m)) (.string s) false).run prog w=.ok (.int .i64 (((Al ns s l).getD 0:Nat):Int)) w:=by
 have hkey:keyOf prog 9 (.string s)=some (kOf s):=keyOf_string_mk underlying9 hs;obtain⟨c,hrun,hc,_⟩:=h.lookup_int Cp underlying64 underlying3 (Cz w) hkey;rw[hrun,Le (hc.symm.trans (Ia ns s l))]
theorem iX(is:List Int)(g cap base:Nat)(w:World)(hin:w.ownsRow base 3 1 (.slice (some ⟨g,0,none⟩) is.length cap) is.length (inV is))(hsm:is.length<=1048576) :
  Calls prog 149 #[.slice (some ⟨g,0,none⟩) is.length cap] w λe w'=>∃v,e=.returned v/\w'.ownsRow w.heap.size 3 1 v is.length (inV is)/\Below w.heap.size w w':=by
 obtain⟨i0,hi,hz0,hz1,hz2⟩:=info_parts Fl;have q22:∀(w:World)(a:OA)(n c n' c':Nat),(binOp .eql 68 (.slice a n c) (.slice none n' c')).run prog w=.ok (.bool a.isNone) w:=λw a n c n' c'=>Lib.run_eql_slice_nil w _ _ a n c n' c' underlying68
 have HS:Hid (∀j u,(inV is)[j]?=some u->w.cell? ((⟨g,0,none⟩:Addr).add j)=some u):=by
  intro j u hj;rw[Addr.add_lit,Nat.zero_add,hin.cellAt j (by have:=Ac hj;simpa using this)];exact hj
 clear hin;go_enter func149,ntmps149;go_wp2_with(at_builtin;refine wpList_append_own _ rfl _ _ 68 rfl w.heap.size 3 i0 _ 1 8 underlying68 hi hz0 hz1 hz2 rfl (by decide) _ _ _ rfl (World.ownsRow_made w #[] 0 nL (zL) rfl) ⟨g,0,none⟩ is.length _ (inV is) rfl (by simp) (λj u hj=>Lib.cell?_alloc_some _ (HS j u hj)) (Ss is) (by unfold maxLen;omega) (by omega) (by simp) ?_;intro v' w1 hown hgrow hnil);go_ret;exact⟨v',rfl,by simpa using hown,((Below.refl _ w).alloc nL _).grown hgrow (by simp) (by intro k hk;cases hk;exact Nat.le_refl _)⟩
def Ti(x:Flt)(k:Nat)(is:List Int):Prop:=is.length=x.services.length/\∀s,s<x.services.length->is[s]?=some (Gh x s k)
theorem nP(p m2:Nat)(x:Flt)(a2:OA)(c2:Nat)(a3:OA)(c3 lo:Nat)(w:World)(p2:w.cell? ⟨p,2,none⟩=some (.slice a2 x.services.length c2))(p3:w.cell? ⟨p,3,none⟩=some (.slice a3 x.copies.length c3))(p5:w.cell? ⟨p,5,none⟩=some (.map (some m2)))(o2:w.ownsMap prog 9 (plainElem prog 3) m2 x.services.length (Ah (svN x) x.services.length))(n2:SliceC SvcC 2 lo w a2 x.services)(n3:SliceC CpyC 12 lo w a3 x.copies)(l2:x.services.length<=30)(l3:x.copies.length<=60)(hsp:∀(k:Nat) (y:Svc),x.services[k]?=some y->0<=y.spare/\y.spare<=60)(hsv:∀(k:Nat) (c:Cpy),x.copies[k]?=some c->∃s,Al (svN x) c.service x.services.length=some s) :
  Calls prog 79 #[.pointer (some ⟨p,0,none⟩)] w λe w'=>∃g is,e=.returned (.slice (some ⟨g,0,none⟩) is.length is.length)/\Ti x x.copies.length is/\w'.ownsRow w.heap.size 3 1 (.slice (some ⟨g,0,none⟩) is.length is.length) is.length (inV is)/\Below w.heap.size w w':=by
 obtain⟨i0,hi,hz0,hz1,hz2⟩:=info_parts Fl;have N2:=iH n2;have N3:=iH n3;have O2:=iH o2;have hpl:p<w.heap.size:=block_lt_of_cell p2;have hm2:m2<w.heap.size:=o2.lt;have P5:=iH p5;have P3:=iH p3;have HSP:=iH hsp;have HSV:=iH hsv;clear n2 n3 o2 p5 hsp hsv;go_enter func79,ntmps79;go_wp2_with(at_make;refine wpList_make_full _ rfl _ _ 68 rfl w.heap.size 3 i0 _ 1 underlying68 hi hz0 hz1 .i64 .i64 _ _ x.services.length rfl rfl rfl rfl (by rw[hz2];omega) (by unfold maxLen;omega) nL ?_;intro w1 hown hgrow;have hb1:Below w.heap.size w w1:=(Below.refl _ _).grown hgrow nL (λk h=>by cases h);have p2':w1.cell? ⟨p,2,none⟩=some (.slice a2 x.services.length c2):=(hb1.cell (p:=⟨p,2,none⟩) hpl).trans p2);have HB1:=iH hb1;generalize hX:(madeCells _ (x.services.length*1)).toList=xs0 at hown;clear hX hgrow hi hz0 hz1 hz2 hb1 p2';go_loopw [21] (λi wr=>∃(k:Nat)(cs:List Value),k<=x.services.length/\i=.int .i64 k/\Hid (wr.ownsRow w.heap.size 3 1 (.slice (some ⟨w.heap.size,0,none⟩) x.services.length x.services.length) x.services.length cs)/\Hid (∀s,s<k->cs[s]?=some (.int .i64 (Ht x s)))/\Hid (Below w.heap.size w wr)) (λi _=>x.services.length-(intOf i).toNat)
 case atStart=>exact⟨0,xs0,zL,rfl,hown,λs h=>absurd h (Nat.not_lt_zero _),HB1⟩
 case round =>
  clear hown HB1;obtain⟨k,cs,hk,rfl,hO,hF,hB⟩:=hrel;by_cases hlt:k<x.services.length
  .obtain⟨y,hy⟩:=gXe hlt
   obtain⟨b,o,rfl,_,_,hc⟩:=(N2.out.below SvcC.holds hB.out nL).at hy;obtain⟨q0,q1,_⟩:=hc;simp only[Nat.add_zero]at q0;have HX:Hid (Ht x k=y.spare):=by unfold Ht;rw[hy];rfl
   have hxl:cs.length=x.services.length*1:=hO.out.1;obtain⟨v0,c0⟩:∃v,wr.cell? ⟨w.heap.size,k,none⟩=some v:=⟨_,(hO.out.cellAt k (by omega)).trans (gE (by omega))⟩;have f0:=hO.out.frozenAt k;have hw0:w.heap.size<wr.heap.size:=(hO.out.lt _ rfl).2;have c1:(wr.alloc (Obj.cells #[.string y.name,.int .i64 y.spare] 88)).cell? ⟨w.heap.size,k,none⟩=some v0:=Lib.cell?_alloc_some _ c0;have hba:=(Below.refl _ wr).alloc nL (Obj.cells #[.string y.name,.int .i64 y.spare] 88);have f1:=(hba.frozen (p:=⟨w.heap.size,k,none⟩) hw0).trans f0;have HBA:=iH hba;clear hy hba
   go_wp2
   go_roundw
   case rel =>
    have hO1:=(hO.out.stored k (.int .i64 y.spare)).1;have hB1:Below w.heap.size w (wr.setCell ⟨w.heap.size,k,none⟩ (.int .i64 y.spare)):=hB.out.setCell nL _;refine⟨k+1,_,by omega,by go_num,Ak hO1 ((Below.refl _ _).alloc nL _),λs hs=>?_,hB1.alloc hB1.size _⟩;by_cases e:s=k
    .subst e
     rw[List.getElem?_set_self (by omega),HX.out]
    .rw[List.getElem?_set_ne (by omega)]
     exact hF.out s (by omega)
   case measure=>simp[intOf];omega
  ·have hke:k=x.services.length:=by omega
   subst hke;have HR:Hid (∃is,Ti x 0 is/\cs=inV is):=by
    refine⟨(List.range x.services.length).map (Ht x),⟨by simp,λs hs=>?_⟩,?_⟩
    .simp[hs,Gh,Bp]
    .apply List.ext_getElem?
     intro j;by_cases hj:j<x.services.length
     .rw[hF.out j hj]
      simp[inV,hj]
     .have h1:=hO.out.1
      rw[List.getElem?_eq_none (by omega),List.getElem?_eq_none (by simp;omega)]
   obtain⟨is0,hS0,rfl⟩:=HR.out;have HS0:=iH hS0;have PA:wr.cell? ⟨p,3,none⟩=some (.slice a3 x.copies.length c3):=(hB.out.cell (p:=⟨p,3,none⟩) hpl).trans P3;clear hS0 HR hF
   go_wp2
   go_loopw [38] (λi wr=>∃(k:Nat)(is:List Int),k<=x.copies.length/\i=.int .i64 k/\Hid (Ti x k is)/\Hid (wr.ownsRow w.heap.size 3 1 (.slice (some ⟨w.heap.size,0,none⟩) x.services.length x.services.length) x.services.length (inV is))/\Hid (Below w.heap.size w wr)) (λi _=>x.copies.length-(intOf i).toNat)
   case atStart=>exact⟨0,is0,zL,rfl,HS0,hO,hB⟩
   case round =>
    clear HS0 hO hB PA;obtain⟨k,is,hk,rfl,hS,hO,hB⟩:=hrel;by_cases hlt:k<x.copies.length
    .obtain⟨y,hy⟩:=gXe hlt
     obtain⟨b,o,rfl,_,_,hc⟩:=(N3.out.below CpyC.holds hB.out nL).at hy;obtain⟨a7,c7,q0,q1,q2,q3,q4,q5,q6,q7,q8,q9,q10,q11,z0,z1,z6,z9,z10,z11,z7⟩:=hc;simp only[Nat.add_zero]at q0 q1 q2 q3 q4 q5 q6 q7 q8 q9 q10 q11;have HRA:Hid (wr.rangeAt b (o+k*12) (ccL y a7 c7)):=Aa q0 (Aa q1 (Aa q2 (Aa q3 (Aa q4 (Aa q5 (Aa q6 (Aa q7 (Aa q8 (Aa q9 (Aa q10 (Aa q11 (Ao _ _ _))))))))))));have HX:=iH hy;have Z1:=iH z1;clear hy q0 q1 q2 q3 q4 q5 q6 q7 q8 q9 q10 q11 z0 z1 z6 z7 z9 z10 z11;go_upto_region 10 with(first|(refine qLr Jg HRA ?_));have hbx:=(Below.refl _ wr).alloc nL (Obj.cells (ccA y a7 c7) 49);have g1:(wr.alloc (Obj.cells (ccA y a7 c7) 49)).cell? ⟨wr.heap.size,1,none⟩=some (.string y.service):=by simp
     have g11:(wr.alloc (Obj.cells (ccA y a7 c7) 49)).cell? ⟨wr.heap.size,11,none⟩=some (.string y.at_):=by simp
     have HB4:=qTH hB hbx;have HO4:=iH (Ak hO.out hbx);clear HRA hbx hO hB;generalize(wr.alloc (Obj.cells (ccA y a7 c7) 49))=w4 at *;by_cases hat:y.at_=⟨#[]⟩
     .obtain⟨s,hs⟩:=HSV.out k y HX
      have HW:Hid (Mf x s k=true):=by show _=_;unfold Mf;rw[HX.out];simp[hat,hs]
      have HW2:Hid (∀t,t≠s->Mf x t k=false):=by
       intro t ht;unfold Mf;rw[HX.out];simp only[hs,Option.some.injEq,Bool.and_eq_false_iff,decide_eq_false_iff_not];exact Or.inr (λe=>ht e.symm)
      have hsl:s<x.services.length:=(Du hs).1;obtain⟨iv,hiv⟩:∃iv,is[s]?=some iv:=⟨_,hS.out.2 s hsl⟩;have hie:iv=Gh x s k:=by have:=hS.out.2 s hsl;rw[hiv]at this;injection this
      have hbd:-60<=iv/\iv<=60:=by
       have h1:=Jw (Mf x s) k;have h2:=HSP.out s _ (gE hsl);rw[hie];unfold Gh Ht;rw[gE hsl];simp only;omega
      have hil:is.length=x.services.length:=hS.out.1;have r0:w4.cell? ⟨w.heap.size,s,none⟩=some (.int .i64 iv):=by
       rw[HO4.out.cellAt s (by omega),List.getElem?_map,hiv];rfl
      have f0:=HO4.out.frozenAt s;have PB:w4.cell? ⟨p,5,none⟩=some (.map (some m2)):=(HB4.out.cell (p:=⟨p,5,none⟩) hpl).trans P5;have yl:=Vs (s:=y.service) (Af O2 HB4 hm2).drew Z1;rw[hs]at yl;simp only[Option.getD_some]at yl;have hte:=Bj hat;have hte2:y.at_.toList.isEmpty=true:=by rw[hte];rfl
      obtain⟨hb1,hb2⟩:=hbd;have HIE:=iH hie;have HIV:=iH hiv;clear hs hat hie hiv;go_wp2_with fail
      go_region
      go_wp2
      go_roundw
      case rel =>
       have hO1:=(HO4.out.stored s (.int .i64 (iv-1))).1;rw[lN]at hO1;refine⟨k+1,is.set s (iv-1),by omega,by go_num,⟨by rw[List.length_set];exact hil,λt ht=>?_⟩,Ak hO1 ((Below.refl _ _).drew),(HB4.out.setCell nL _).drew⟩;by_cases e:t=s
       .subst e
        rw[List.getElem?_set_self (by omega),HIE.out];unfold Gh;rw[Gr HW.out]
        congr 1
        omega
       .rw[List.getElem?_set_ne (by omega),hS.out.2 t ht]
        unfold Gh;rw[Ii (HW2 t e)]
      case measure=>simp[intOf];omega
     .have HW:Hid (∀t,Mf x t k=false):=by
       intro t;unfold Mf;rw[HX.out];simp[hat]
      have hte:=Ay hat;have hte2:y.at_.toList.isEmpty=false:=by
       cases h:y.at_.toList with
       |nil=>exact absurd h hte
       |cons a l=>rfl
      clear hat
      go_wp2
      go_roundw
      case rel =>
       refine⟨k+1,is,by omega,by go_num,⟨hS.out.1,λs hs=>?_⟩,HO4,HB4⟩;rw[hS.out.2 s hs];unfold Gh;rw[Ii (HW s)]
      case measure=>simp[intOf];omega
    .have hke:k=x.copies.length:=by omega
     subst hke
     go_wp2
     go_ret;have hil:=hS.out.1;exact⟨w.heap.size,is,by rw[hil];rfl,hS.out,by rw[hil];exact hO.out,hB.out⟩
end Go.Proofs.YtpidfnfilnkhkaaGreat
