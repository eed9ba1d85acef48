import Derived.Shelf.Strconv.Clone
import Derived.KernelRfl
import Derived.Test.YthboopnmbglkjaaGreatJ6
set_option maxHeartbeats 2000000
namespace Go.Proofs.YthboopnmbglkjaaGreat
open Go.RowKit Tryz
def CP:Go.Shelf.Ren:={
 f:=λn=>if n=316 then 115 else 0,
 t:=λn=>if n=3 then 3 else if n=4 then 4 else if n=5 then 5 else if n=9 then 9 else if n=37 then 125 else if n=127 then 205 else 0,
 g:=λn=>n}
theorem yN:LaysM.n316 prog CP:={
 mixed:=by kernel_rfl,
 f316:=by kernel_rfl,
 t0:=by kernel_rfl,
 a0:=λw=>by kernel_rfl,
 z0:=λw=>by kernel_rfl,
 v0:=λw=>by kernel_rfl,
 t3:=by kernel_rfl,
 a3:=λw=>by kernel_rfl,
 z3:=λw=>by kernel_rfl,
 v3:=λw=>by kernel_rfl,
 t4:=by kernel_rfl,
 a4:=λw=>by kernel_rfl,
 z4:=λw=>by kernel_rfl,
 v4:=λw=>by kernel_rfl,
 t9:=by kernel_rfl,
 a9:=λw=>by kernel_rfl,
 z9:=λw=>by kernel_rfl,
 v9:=λw=>by kernel_rfl,
 t37:=by kernel_rfl,
 a37:=λw=>by kernel_rfl,
 z37:=λw=>by kernel_rfl,
 v37:=λw=>by kernel_rfl,
 t127:=by kernel_rfl,
 a127:=λw=>by kernel_rfl,
 z127:=λw=>by kernel_rfl,
 v127:=λw=>by kernel_rfl,
 t5:=by kernel_rfl,
 a5:=λw=>by kernel_rfl,
 z5:=λw=>by kernel_rfl,
 v5:=λw=>by kernel_rfl,
 i0:=by kernel_rfl,
 i3:=by kernel_rfl,
 i4:=by kernel_rfl,
 i5:=by kernel_rfl,
 i9:=by kernel_rfl,
 i37:=by kernel_rfl,
 i127:=by kernel_rfl}
theorem Ym(s:BA)(w:World)(hs:s.size<=200) :
  Calls prog 70 #[Y s] w (Rt (Y s) w):=by
 go_enter func70,ntmps70;go_wp2_with fail;refine(Any.stringslite_Clone yN s w (by omega)).mono ?_;rintro e w1⟨rfl,hb⟩
 go_wp2
 go_ret;exact⟨rfl,hb⟩
def Nv(q:Int):Value:=.iface 252 (.agg #[X 2,X q])
theorem Kb(p:Nat)(t:BA)(i:Nat)(w:World)(hr:RdAt w p t i) :
  Calls prog 194 #[pP p 0] w λe w'=>e=.returned (Nv i)/\But p w.heap.size w w':=by
 obtain⟨r0,r1,r2⟩:=hr;go_enter func194,ntmps194
 go_wp2
 go_ret;exact⟨rfl,But.refl _ _ _⟩
def cut(t:BA)(a b:Nat):List UInt8:=(t.data.toList.drop a).take (b-a)
theorem Tj(t:BA)(a:Nat):cut t a a=[]:=by simp[cut]
theorem Wu{t:BA}{a b:Nat}(h:a<=b)(hb:b<t.size):cut t a (b+1)=cut t a b++[t[b]]:=by
 unfold cut;rw[show b+1-a=(b-a)+1 by omega,List.take_succ_eq_append_getElem (by simp;have:t.data.toList.length=t.size:=rfl;omega)]
 congr 2
 rw[List.getElem_drop];simp[ByteArray.getElem_eq_getElem_data,show a+(b-a)=b by omega]
theorem rO{t:BA}{a b:Nat}(h:a<=b):t.data.toList.drop a=cut t a b++t.data.toList.drop b:=by
 unfold cut
 conv=>lhs;rw[<-List.take_append_drop (b-a) (t.data.toList.drop a)]
 rw[List.drop_drop,show a+(b-a)=b by omega]
theorem Lh{t:BA}{a b:Nat}:t.extract a b=P.bts (cut t a b):=by
 unfold P.bts cut;apply ByteArray.ext;rw[ByteArray.data_extract];apply Array.toList_inj.1;rw[Array.toList_extract,List.extract_eq_take_drop]
theorem rW{t:BA}{k:Nat}(h:∀hk:k<t.size,P.letter t[k]=false):P.stops (t.data.toList.drop k):=by
 by_cases hk:k<t.size
 .rw[Ts hk];exact h hk
 rw[List.drop_eq_nil_of_le (by simpa using Nat.le_of_not_lt hk)];trivial
theorem bL{t:BA}{a b:Nat}(hab:a<b)(hb:b<=t.size)(hl:∀c∈cut t a b,P.letter c=true)(hs:∀hk:b<t.size,P.letter t[b]=false):Ad t a=cut t a b::Ad t b:=by
 unfold Ad;rw[rO (lE hab)];refine P.toks_run _ _ ?_ hl (rW hs);intro e;have:(cut t a b).length=b-a:=by
  unfold cut;rw[List.length_take,List.length_drop];have:t.data.toList.length=t.size:=rfl;omega
 rw[e]at this;simp at this;omega
theorem vU{t:BA}{a:Nat}(ha:a<t.size)(hb:t[a]≠32)(hl:P.letter t[a]=false):P.nm (Ad t a)=none:=by
 rw[Mm ha hb hl];simp[P.nm,P.nmB,hl]
theorem sR{t:BA}{a b:Nat}(hab:a<=b)(hb:b<=t.size)(hl:∀c∈cut t a b,P.letter c=true)(hs:∀hk:b<t.size,P.letter t[b]=false)(hok:P.nameOk (t.extract a b)=true):P.nm (Ad t a)=some (cut t a b,Ad t b):=by
 rw[Lh,P.nmB_eq]at hok;have hne:a≠b:=by
  intro e;subst e;rw[Tj]at hok;cases hok
 rw[bL (by omega) hb hl hs];simp[P.nm,hok]
theorem yT{t:BA}{a b:Nat}(hab:a<=b)(hb:b<=t.size)(ha:a<t.size)(hso:t[a]≠32)(hl:∀c∈cut t a b,P.letter c=true)(hs:∀hk:b<t.size,P.letter t[b]=false)(hok:P.nameOk (t.extract a b)=false):P.nm (Ad t a)=none:=by
 rw[Lh,P.nmB_eq]at hok;by_cases e:a=b
 .subst e
  exact vU ha hso (hs ha)
 rw[bL (by omega) hb hl hs];simp[P.nm,hok]
theorem Hq(t:BA)(a b:Nat)(h:t.size<=200):(t.extract a b).size<=200:=by
 rw[ByteArray.size_extract];omega
theorem eY(p:Nat)(t:BA)(i:Nat)(w:World)(hr:RdAt w p t i)(hi:i<=t.size)(ht:t.size<=200) :
  Calls prog 214 #[pP p 0] w λe w' =>
   (∃n k,P.nm (Ad t i)=some (n,Ad t k)/\e=.returned (.tuple #[Y (P.bts n),.nilIface])/\k<=t.size/\RdAt w' p t k/\But p w.heap.size w w') \/
   (P.nm (Ad t i)=none/\∃q,e=.returned (.tuple #[Y ⟨#[]⟩,Nv q])/\But p w.heap.size w w'):=by
 have HR:=iH hr;clear hr;go_enter func214,ntmps214;go_wp2_with fail;refine(Nf p t i _ HR hi ht).mono ?_;rintro e w1⟨k0,rfl,h1,h2,h3,h4,h5,h6⟩;have H3:=iH h3;have H4:=iH h4;have H5:=iH h5;have H6:=iH h6;clear h3 h4 h5 h6;by_cases hk:k0=t.size
 .rw[decide_eq_true hk]
  have HT:Hid (P.nm (Ad t i)=none):=by rw[<-H3.out,Ic (by omega)];rfl
  go_wp2_with fail;refine(Kb p t k0 _ H5).mono ?_;rintro e w2⟨rfl,hb2⟩
  go_wp2
  go_ret2
  exact .inr ⟨HT,_,rfl,H6.out.trans (hb2.mono H6.out.size)⟩
 rw[decide_eq_false hk];have hlt0:k0<t.size:=by omega
 obtain⟨r0,r1,r2⟩:=H5.out;go_wp2_with fail;clear r0 r1 r2;go_loopw [] (λwr=>∃k,k0<=k/\k<=t.size/\Hid (∀c∈cut t k0 k,P.letter c=true)/\Hid (RdAt wr p t k)/\Hid (But p w.heap.size w wr)) (λwr=>cT t p wr)
 case atStart=>exact⟨k0,Nat.le_refl _,h2,(by rw[Tj];exact(λc h=>by simp at h)),H5,H6⟩
 obtain⟨k,g1,g2,g3,g4,g5⟩:=hrel;obtain⟨r0,r1,r2⟩:=g4.out;by_cases hlt:k<t.size
 .have i0:(0:Int)<=(k:Int):=by omega
  have i1:(k:Int)<(t.size:Int):=by omega
  have k0':=cell_regrown r0;have k1':=cell_regrown r1
  cases hL:P.letter t[k]with
  | true =>
   have cE:∀d os,Calls prog 153 #[.int .u8 t[k].toNat] (Sort.grow (redrawn wr d) os) λe w''=>e=.returned (.bool true)/\∃p:Regrown,w''=Sort.grow (redrawn wr p.d) p.os:=λd os=>(Lq t[k] _).mono (by rintro e w' ⟨rfl,rfl⟩;exact⟨by rw[hL],⟨d,os⟩,rfl⟩)
   have HC:Hid (∀c∈cut t k0 (k+1),P.letter c=true):=by
    show ∀c∈_,_
    rw[Wu g1 hlt];intro c hc;rcases List.mem_append.1 hc with hc|hc
    .exact g3.out c hc
    simp at hc;rw[hc];exact hL
   clear hL r0 r1 r2;go_wp2_with fail;refine wp_region_quiet_below (by kernel_rfl) (by kernel_rfl) ?_
   repeat(quiet_step (first|exact cE _ _))
   refine wpQuiet_nil ?_;intro wq hw';obtain⟨⟨dq,osq⟩,hw''⟩:=hw';have hbq:bW wr wq:=by
    simp only[]at hw'';rw[hw''];exact below_regrown wr dq osq
   have G4:Hid (RdAt wq p t k):=g4.out.below hbq g4.out.lt;have G5:Hid (But p w.heap.size w wq):=g5.out.trans ((But.of_below hbq).mono g5.out.size);clear hw'' hbq cE k0' k1';obtain⟨s0,s1,s2⟩:=G4.out
   go_wp2
   go_roundw
   case rel=>exact⟨k+1,by omega,by omega,HC,G4.out.succ,G5.out.set _ _⟩
   rw[Nl G4.out.succ,Nl g4.out];omega
  | false =>
   have cE:∀d os,Calls prog 153 #[.int .u8 t[k].toNat] (Sort.grow (redrawn wr d) os) λe w''=>e=.returned (.bool false)/\∃p:Regrown,w''=Sort.grow (redrawn wr p.d) p.os:=λd os=>(Lq t[k] _).mono (by rintro e w' ⟨rfl,rfl⟩;exact⟨by rw[hL],⟨d,os⟩,rfl⟩)
   have HST:Hid (∀hk:k<t.size,P.letter t[k]=false):=λ_=>hL
   clear hL r0 r1 r2;go_wp2_with fail;refine wp_region_quiet_below (by kernel_rfl) (by kernel_rfl) ?_
   repeat(quiet_step (first|exact cE _ _))
   refine wpQuiet_nil ?_;intro wq hw';obtain⟨⟨dq,osq⟩,hw''⟩:=hw';have hbq:bW wr wq:=by
    simp only[]at hw'';rw[hw''];exact below_regrown wr dq osq
   have G4:Hid (RdAt wq p t k):=g4.out.below hbq g4.out.lt;have G5:Hid (But p w.heap.size w wq):=g5.out.trans ((But.of_below hbq).mono g5.out.size);clear hw'' hbq cE k0' k1';have HS:Hid (∀hk:k<t.size,P.letter t[k]=false):=HST.out;obtain⟨s0,s1,s2⟩:=G4.out;have j0:(0:Int)<=(k0:Int):=by omega
   have j1:(k0:Int)<=(k:Int):=by omega
   have j2:(k:Int)<=(t.size:Int):=by omega
   have HZ:Hid ((t.extract k0 k).size<=maxLen):=by show _<=_;have:=Hq t k0 k ht;unfold maxLen;omega
   go_wp2_with fail
   go_region
   go_wp2_with fail;refine(Ci _ _ HZ).mono ?_;rintro e w' ⟨rfl,rfl⟩
   cases hok:P.nameOk (t.extract k0 k)with
   |true =>
    have HT:Hid (P.nm (Ad t i)=some (cut t k0 k,Ad t k)):=by rw[<-H3.out];exact sR g1 g2 g3.out HS hok
    clear hok;go_wp2_with fail;refine(Ym _ _ (Hq t k0 k ht)).mono ?_;rintro e w8⟨rfl,hb8⟩;have G8:Hid (RdAt w8 p t k):=G4.out.drew.below hb8 G4.out.lt;have HB8:Hid (But p w.heap.size w w8):=G5.out.drew.trans ((But.of_below hb8).mono G5.out.size);clear hb8
    go_wp2
    go_ret2
    exact .inl ⟨_,k,HT,by rw[<-Lh];rfl,g2,G8,HB8⟩
   |false =>
    have HT:Hid (P.nm (Ad t i)=none):=by rw[<-H3.out];exact yT g1 g2 hlt0 (H4 hlt0) g3.out HS hok
    clear hok;go_wp2_with fail;refine(Kb p t k _ G4.out.drew).mono ?_;rintro e w8⟨rfl,hb8⟩;have HB8:Hid (But p w.heap.size w w8):=G5.out.drew.trans (hb8.mono G5.out.size);clear hb8
    go_wp2
    go_ret2
    exact .inr ⟨HT,_,rfl,HB8⟩
 have i1:¬(k:Int)<(t.size:Int):=by omega
 have HST:Hid (∀hk:k<t.size,P.letter t[k]=false):=λh=>absurd h hlt
 go_wp2_with fail
 go_region
 have G4:Hid (RdAt wr.drew p t k):=g4.out.drew;have G5:Hid (But p w.heap.size w wr.drew):=g5.out.drew;generalize wr.drew=wq at *;have HS:Hid (∀hk:k<t.size,P.letter t[k]=false):=HST.out;obtain⟨s0,s1,s2⟩:=G4.out;have j0:(0:Int)<=(k0:Int):=by omega
 have j1:(k0:Int)<=(k:Int):=by omega
 have j2:(k:Int)<=(t.size:Int):=by omega
 have HZ:Hid ((t.extract k0 k).size<=maxLen):=by show _<=_;have:=Hq t k0 k ht;unfold maxLen;omega
 go_wp2_with fail
 go_region
 go_wp2_with fail;refine(Ci _ _ HZ).mono ?_;rintro e w' ⟨rfl,rfl⟩
 cases hok:P.nameOk (t.extract k0 k)with
 |true =>
  have HT:Hid (P.nm (Ad t i)=some (cut t k0 k,Ad t k)):=by rw[<-H3.out];exact sR g1 g2 g3.out HS hok
  clear hok;go_wp2_with fail;refine(Ym _ _ (Hq t k0 k ht)).mono ?_;rintro e w8⟨rfl,hb8⟩;have G8:Hid (RdAt w8 p t k):=G4.out.drew.below hb8 G4.out.lt;have HB8:Hid (But p w.heap.size w w8):=G5.out.drew.trans ((But.of_below hb8).mono G5.out.size);clear hb8
  go_wp2
  go_ret2
  exact .inl ⟨_,k,HT,by rw[<-Lh];rfl,g2,G8,HB8⟩
 |false =>
  have HT:Hid (P.nm (Ad t i)=none):=by rw[<-H3.out];exact yT g1 g2 hlt0 (H4 hlt0) g3.out HS hok
  clear hok;go_wp2_with fail;refine(Kb p t k _ G4.out.drew).mono ?_;rintro e w8⟨rfl,hb8⟩;have HB8:Hid (But p w.heap.size w w8):=G5.out.drew.trans (hb8.mono G5.out.size);clear hb8
  go_wp2
  go_ret2
  exact .inr ⟨HT,_,rfl,HB8⟩
def Rds(p:Nat)(t:BA)(r:Option (P.Tr×List (List UInt8)))(w:World)(e:Ending)(w':World):Prop :=
 (∃y k,r=some (y,Ad t k)/\e=.returned (.tuple #[val y,.nilIface])/\k<=t.size/\RdAt w' p t k/\But p w.heap.size w w') \/
 (r=none/\∃q,e=.returned (.tuple #[.nilIface,Nv q])/\But p w.heap.size w w')
theorem tG(p:Nat)(t:BA)(i:Nat)(w:World)(hr:RdAt w p t i)(hi:i<=t.size)(ht:t.size<=200) :
  Calls prog 213 #[pP p 0] w λe w'=>Rds p t (P.markT (Ad t i)) w e w':=by
 have HR:=iH hr;clear hr
 have HM:Hid (P.markT (Ad t i)=match P.nm (Ad t i)with
  |none=>none
  | some (n,r)=>match P.tk 61 r with
   |none=>some (P.nmT (P.bts n),r)
   |some r'=>match P.nm r' with
    |none=>none
    |some (v,r'')=>some (P.vlT (P.bts n) (P.bts v),r'')):=rfl
 generalize P.markT (Ad t i)=M at *;go_enter func213,ntmps213;go_wp2_with fail;refine(eY p t i _ HR hi ht).mono ?_;rintro e w1 (⟨n,k,h1,rfl,h2,h3,h4⟩|⟨h1,q,rfl,h4⟩)
 .have H3:=iH h3
  have H4:=iH h4;have H1:=iH h1;clear h1 h3 h4;go_wp2_with fail;refine(Kp p t k 61 _ H3 h2 ht (by decide) (by decide)).mono ?_;rintro e w2⟨k2,rfl,g1,g2,g3,g4,g5⟩;have G4:=iH g4;have G5:Hid (But p w.heap.size w w2):=H4.out.trans (g5.mono H4.out.size);have G3:=iH g3;clear g3 g4 g5 H3 H4
  cases hT:P.tk 61 (Ad t k)with
  |none =>
   have HR1:Hid (M=some (P.nmT (P.bts n),Ad t k2)):=by rw[HM.out,H1.out];simp only[hT];rw[G3.out,hT];rfl
   clear hT HM G3
   go_wp2
   go_ret2
   exact .inl ⟨_,k2,HR1,rfl,g2,G4,G5⟩
  | some r' =>
   have G3':Hid (Ad t k2=r'):=by rw[G3.out,hT];rfl
   have HM2:Hid (M=match P.nm (Ad t k2)with
    |none=>none
    |some (v,r'')=>some (P.vlT (P.bts n) (P.bts v),r'')):=by rw[HM.out,H1.out];simp only[hT];rw[G3'.out];rfl
   clear hT HM G3 G3';go_wp2_with fail;refine(eY p t k2 _ G4 g2 ht).mono ?_;rintro e w3 (⟨v,k3,f1,rfl,f2,f3,f4⟩|⟨f1,q,rfl,f4⟩)
   .have HR1:Hid (M=some (P.vlT (P.bts n) (P.bts v),Ad t k3)):=by rw[HM2.out,f1];rfl
    have F3:=iH f3;have F4:Hid (But p w.heap.size w w3):=G5.out.trans (f4.mono G5.out.size);clear f1 f3 f4 HM2
    go_wp2
    go_ret2
    exact .inl ⟨_,k3,HR1,rfl,f2,F3,F4⟩
   have HR1:Hid (M=none):=by rw[HM2.out,f1];rfl
   have F4:Hid (But p w.heap.size w w3):=G5.out.trans (f4.mono G5.out.size);clear f1 f4 HM2;simp only[Nv]
   go_wp2
   go_ret2
   exact .inr ⟨HR1,q,rfl,F4⟩
 have HR1:Hid (M=none):=by rw[HM.out,h1];rfl
 have H4:=iH h4;clear h1 h4 HM;simp only[Nv]
 go_wp2
 go_ret2
 exact .inr ⟨HR1,q,rfl,H4⟩
def Jq(F:FuncId)(m c p:Nat)(t:BA)(f:Nat):Prop :=
 ∀(i:Nat)(w:World),RdAt w p t i->i<=t.size->4*(Ad t i).length+c<=f ->
  Calls prog F #[pP p 0] w λe w'=>Rds p t (P.rd f m P.nonT (Ad t i)) w e w'
def Tw(t:BA)(p:Nat)(w:World):Nat:=(Ad t (match w.cell? (E p 1)with|some v=>(intOf v).toNat|none=>0)).length
theorem Kw{w:World}{p:Nat}{t:BA}{i:Nat}(h:RdAt w p t i):Tw t p w=(Ad t i).length:=by
 unfold Tw;rw[h.2.1];simp[intOf]
theorem lX:∀l:List UInt8,(P.toks l).length<=l.length
 |[]=>by simp[P.toks]
 | c::r=>by
  have ih:=lX r;rw[P.toks_cons]
  split
  .simp;omega
  split
  .cases r with
   |nil=>simp[P.onto,P.toks]
   | cons d r' =>
    cases hT:P.toks (d::r')with
    |nil=>simp[P.onto]
    |cons h tl =>
     rw[hT]at ih;by_cases hd:P.letter d=true
     .simp[P.onto,hd]at ih⊢;omega
     simp[P.onto,hd]at ih⊢;omega
  simp;omega
theorem Hx{t:BA}{i:Nat}(ht:t.size<=200):(Ad t i).length<=200:=by
 unfold Ad;have h1:=lX (t.data.toList.drop i);have h2:t.data.toList.length=t.size:=rfl;simp only[List.length_drop]at h1;omega
theorem cM(p:Nat)(t:BA)(f:Nat)(H:∀g,g<=f->Jq 208 0 1 p t g)(i:Nat)(w:World)(hr:RdAt w p t i)(hi:i<=t.size)(ht:t.size<=200)(hf:4*(Ad t i).length+2<=f+1) :
  Calls prog 201 #[pP p 0,.int .u8 38,.func (.func 208) #[pP p 0] #[],.func (.func 209) #[] #[]] w λe w'=>Rds p t (P.rd (f+1) 1 P.nonT (Ad t i)) w e w':=by
 have HR:=iH hr;have HH:Hid (∀g,g<=f->Jq 208 0 1 p t g):=H;clear hr H
 have HM:Hid (P.rd (f+1) 1 P.nonT (Ad t i)=match P.rd f 0 P.nonT (Ad t i)with
  |none=>none
  |some (y,r)=>P.rd f 3 y r):=rfl
 generalize P.rd (f+1) 1 P.nonT (Ad t i)=M at *;have hlen:=Hx (i:=i) ht;generalize hN:(Ad t i).length=N at *;have HN:=iH hN;clear hN;go_enter func201,ntmps201;go_wp2_with fail;refine(HH f nL i _ HR hi (by have:=HN.out;omega)).mono ?_;rintro e w1 (⟨y,k,h1,rfl,h2,h3,h4⟩|⟨h1,q,rfl,h4⟩)
 .obtain⟨a1,a2,a3,a4,a5,a6⟩:=P.rd_rd f 0 P.nonT _ _ _ (λh=>by omega) h1
  have a2:=a2 (by omega);rw[if_pos (by omega),HN.out]at a5;rw[HN.out]at a2;have HM2:Hid (M=P.rd f 3 y (Ad t k)):=by rw[HM.out,h1];rfl
  have H3:=iH h3;have H4:=iH h4;have HW:Hid (P.wf y/\P.good y/\P.tall y<P.count y/\P.count y+(Ad t k).length<=N):=⟨a3,a4,a6,a5⟩;have HG:Hid (4*(Ad t k).length+1<=f):=by show _<=_;omega
  clear h1 h3 h4 HM a1 a2 a3 a4 a5 a6
  go_wp2
  go_loopw [10] (λv wr=>∃y k g,v=val y/\k<=t.size/\Hid (g<=f)/\Hid (4*(Ad t k).length+1<=g)/\Hid (RdAt wr p t k)/\Hid (But p w.heap.size w wr)/\Hid (P.wf y/\P.good y/\P.tall y<P.count y/\P.count y+(Ad t k).length<=N)/\Hid (M=P.rd g 3 y (Ad t k))) (λ_ wr=>Tw t p wr)
  case atStart=>exact⟨y,k,f,rfl,h2,Nat.le_refl _,HG,H3,H4,HW,HM2⟩
  clear H3 H4 HW HM2 HG h2;obtain⟨y,k,g,rfl,h2,hg,HG,H3,H4,HW,HM2⟩:=hrel;go_wp2_with fail;refine(Kp p t k 38 _ H3 h2 ht (by decide) (by decide)).mono ?_;rintro e w2⟨k2,rfl,g1,g2,g3,g4,g5⟩;have G4:=iH g4;have G5:Hid (But p w.heap.size w w2):=H4.out.trans (g5.mono H4.out.size);have G3:=iH g3;obtain⟨g',hg'⟩:∃g',g=g'+1:=⟨g-1,by have:=HG.out;omega⟩;subst hg'
  have HM3:Hid (M=match P.tk 38 (Ad t k)with
   |none=>some (y,Ad t k)
   |some r=>match P.rd g' 0 P.nonT r with
    |none=>none
    |some (z,r')=>P.rd g' 3 (P.anT y z) r'):=HM2.out
  clear g3 g4 g5 HM2
  cases hT:P.tk 38 (Ad t k)with
  |none =>
   have HR1:Hid (M=some (y,Ad t k2)):=by rw[HM3.out,hT];simp only[];rw[G3.out,hT];rfl
   clear hT HM3 G3
   go_wp2
   go_ret2
   exact .inl ⟨y,k2,HR1,rfl,g2,G4,G5⟩
  | some r' =>
   have G3':Hid (Ad t k2=r'):=by rw[G3.out,hT];rfl
   have hl2:Hid ((Ad t k2).length+1=(Ad t k).length):=by rw[G3'.out];exact P.tk_len hT
   have HM4:Hid (M=match P.rd g' 0 P.nonT (Ad t k2)with
    |none=>none
    |some (z,r')=>P.rd g' 3 (P.anT y z) r'):=by rw[HM3.out,hT];simp only[];rw[G3'.out];rfl
   clear hT HM3 G3 G3';go_wp2_with fail;refine(HH g' (by have:=hg.out;omega) k2 _ G4 g2 (by have:=HG.out;have:=hl2.out;omega)).mono ?_;rintro e w3 (⟨z,k3,f1,rfl,f2,f3,f4⟩|⟨f1,q,rfl,f4⟩)
   .obtain⟨b1,b2,b3,b4,b5,b6⟩:=P.rd_rd g' 0 P.nonT _ _ _ (λh=>by omega) f1
    have b2:=b2 (by omega);rw[if_pos (by omega)]at b5;have HM5:Hid (M=P.rd g' 3 (P.anT y z) (Ad t k3)):=by rw[HM4.out,f1];rfl
    have F3:=iH f3;have F4:Hid (But p w.heap.size w w3):=G5.out.trans (f4.mono G5.out.size);have HW3:Hid (P.wf z/\P.good z/\P.tall z<P.count z):=⟨b3,b4,b6⟩;have HL3:Hid ((Ad t k3).length<(Ad t k2).length/\P.count z+(Ad t k3).length<=(Ad t k2).length):=⟨b2,b5⟩;have HY:Hid (P.tall y<=1000):=by show _<=_;have:=HW.out;omega
    have HZ:Hid (P.tall z<=1000):=by show _<=_;have:=HW.out;have:=hl2.out;omega
    clear f1 f3 f4 HM4 b1 b2 b3 b4 b5 b6;go_wp2_with fail;refine(aW y z HW.out.1 HW3.out.1 HY HZ _).mono ?_;rintro e w4⟨rfl,hb4⟩;have E3:Hid (RdAt w4 p t k3):=F3.out.below hb4 F3.out.lt;have E4:Hid (But p w.heap.size w w4):=F4.out.trans ((But.of_below hb4).mono F4.out.size);clear hb4
    go_wp2
    go_roundw
    case rel =>
     refine⟨P.anT y z,k3,g',rfl,f2,by show _<=_;have:=hg.out;omega,by show _<=_;have:=HG.out;have:=hl2.out;have:=HL3.out;omega,E3,E4,?_,HM5⟩;obtain⟨x1,x2,x3,x4⟩:=HW.out;obtain⟨z1,z2,z3⟩:=HW3.out;have:=hl2.out;have:=HL3.out;exact⟨P.wf_an x1 z1,by rw[P.good_an];exact⟨x2,z2⟩,by rw[P.tall_an,P.count_an];omega,by rw[P.count_an];omega⟩
    rw[Kw E3.out,Kw H3.out];have:=hl2.out;have:=HL3.out;omega
   have HR1:Hid (M=none):=by rw[HM4.out,f1];rfl
   have F4:Hid (But p w.heap.size w w3):=G5.out.trans (f4.mono G5.out.size);clear f1 f4 HM4;simp only[Nv]
   go_wp2
   go_ret2
   exact .inr ⟨HR1,q,rfl,F4⟩
 have HR1:Hid (M=none):=by rw[HM.out,h1];rfl
 have H4:=iH h4;clear h1 h4 HM;simp only[Nv]
 go_wp2
 go_ret2
 exact .inr ⟨HR1,q,rfl,H4⟩
theorem fA(p:Nat)(t:BA)(f:Nat)(H:∀g,g<=f->Jq 202 1 2 p t g)(i:Nat)(w:World)(hr:RdAt w p t i)(hi:i<=t.size)(ht:t.size<=200)(hf:4*(Ad t i).length+3<=f+1) :
  Calls prog 201 #[pP p 0,.int .u8 124,.func (.func 202) #[pP p 0] #[],.func (.func 203) #[] #[]] w λe w'=>Rds p t (P.rd (f+1) 2 P.nonT (Ad t i)) w e w':=by
 have HR:=iH hr;have HH:Hid (∀g,g<=f->Jq 202 1 2 p t g):=H;clear hr H
 have HM:Hid (P.rd (f+1) 2 P.nonT (Ad t i)=match P.rd f 1 P.nonT (Ad t i)with
  |none=>none
  |some (y,r)=>P.rd f 4 y r):=rfl
 generalize P.rd (f+1) 2 P.nonT (Ad t i)=M at *;have hlen:=Hx (i:=i) ht;generalize hN:(Ad t i).length=N at *;have HN:=iH hN;clear hN;go_enter func201,ntmps201;go_wp2_with fail;refine(HH f nL i _ HR hi (by have:=HN.out;omega)).mono ?_;rintro e w1 (⟨y,k,h1,rfl,h2,h3,h4⟩|⟨h1,q,rfl,h4⟩)
 .obtain⟨a1,a2,a3,a4,a5,a6⟩:=P.rd_rd f 1 P.nonT _ _ _ (λh=>by omega) h1
  have a2:=a2 (by omega);rw[if_pos (by omega),HN.out]at a5;rw[HN.out]at a2;have HM2:Hid (M=P.rd f 4 y (Ad t k)):=by rw[HM.out,h1];rfl
  have H3:=iH h3;have H4:=iH h4;have HW:Hid (P.wf y/\P.good y/\P.tall y<P.count y/\P.count y+(Ad t k).length<=N):=⟨a3,a4,a6,a5⟩;have HG:Hid (4*(Ad t k).length+1<=f):=by show _<=_;omega
  clear h1 h3 h4 HM a1 a2 a3 a4 a5 a6
  go_wp2
  go_loopw [10] (λv wr=>∃y k g,v=val y/\k<=t.size/\Hid (g<=f)/\Hid (4*(Ad t k).length+1<=g)/\Hid (RdAt wr p t k)/\Hid (But p w.heap.size w wr)/\Hid (P.wf y/\P.good y/\P.tall y<P.count y/\P.count y+(Ad t k).length<=N)/\Hid (M=P.rd g 4 y (Ad t k))) (λ_ wr=>Tw t p wr)
  case atStart=>exact⟨y,k,f,rfl,h2,Nat.le_refl _,HG,H3,H4,HW,HM2⟩
  clear H3 H4 HW HM2 HG h2;obtain⟨y,k,g,rfl,h2,hg,HG,H3,H4,HW,HM2⟩:=hrel;go_wp2_with fail;refine(Kp p t k 124 _ H3 h2 ht (by decide) (by decide)).mono ?_;rintro e w2⟨k2,rfl,g1,g2,g3,g4,g5⟩;have G4:=iH g4;have G5:Hid (But p w.heap.size w w2):=H4.out.trans (g5.mono H4.out.size);have G3:=iH g3;obtain⟨g',hg'⟩:∃g',g=g'+1:=⟨g-1,by have:=HG.out;omega⟩;subst hg'
  have HM3:Hid (M=match P.tk 124 (Ad t k)with
   |none=>some (y,Ad t k)
   |some r=>match P.rd g' 1 P.nonT r with
    |none=>none
    |some (z,r')=>P.rd g' 4 (P.orT y z) r'):=HM2.out
  clear g3 g4 g5 HM2
  cases hT:P.tk 124 (Ad t k)with
  |none =>
   have HR1:Hid (M=some (y,Ad t k2)):=by rw[HM3.out,hT];simp only[];rw[G3.out,hT];rfl
   clear hT HM3 G3
   go_wp2
   go_ret2
   exact .inl ⟨y,k2,HR1,rfl,g2,G4,G5⟩
  | some r' =>
   have G3':Hid (Ad t k2=r'):=by rw[G3.out,hT];rfl
   have hl2:Hid ((Ad t k2).length+1=(Ad t k).length):=by rw[G3'.out];exact P.tk_len hT
   have HM4:Hid (M=match P.rd g' 1 P.nonT (Ad t k2)with
    |none=>none
    |some (z,r')=>P.rd g' 4 (P.orT y z) r'):=by rw[HM3.out,hT];simp only[];rw[G3'.out];rfl
   clear hT HM3 G3 G3';go_wp2_with fail;refine(HH g' (by have:=hg.out;omega) k2 _ G4 g2 (by have:=HG.out;have:=hl2.out;omega)).mono ?_;rintro e w3 (⟨z,k3,f1,rfl,f2,f3,f4⟩|⟨f1,q,rfl,f4⟩)
   .obtain⟨b1,b2,b3,b4,b5,b6⟩:=P.rd_rd g' 1 P.nonT _ _ _ (λh=>by omega) f1
    have b2:=b2 (by omega);rw[if_pos (by omega)]at b5;have HM5:Hid (M=P.rd g' 4 (P.orT y z) (Ad t k3)):=by rw[HM4.out,f1];rfl
    have F3:=iH f3;have F4:Hid (But p w.heap.size w w3):=G5.out.trans (f4.mono G5.out.size);have HW3:Hid (P.wf z/\P.good z/\P.tall z<P.count z):=⟨b3,b4,b6⟩;have HL3:Hid ((Ad t k3).length<(Ad t k2).length/\P.count z+(Ad t k3).length<=(Ad t k2).length):=⟨b2,b5⟩;have HY:Hid (P.tall y<=1000):=by show _<=_;have:=HW.out;omega
    have HZ:Hid (P.tall z<=1000):=by show _<=_;have:=HW.out;have:=hl2.out;omega
    clear f1 f3 f4 HM4 b1 b2 b3 b4 b5 b6;go_wp2_with fail;refine(Va y z HW.out.1 HW3.out.1 HY HZ _).mono ?_;rintro e w4⟨rfl,hb4⟩;have E3:Hid (RdAt w4 p t k3):=F3.out.below hb4 F3.out.lt;have E4:Hid (But p w.heap.size w w4):=F4.out.trans ((But.of_below hb4).mono F4.out.size);clear hb4
    go_wp2
    go_roundw
    case rel =>
     refine⟨P.orT y z,k3,g',rfl,f2,by show _<=_;have:=hg.out;omega,by show _<=_;have:=HG.out;have:=hl2.out;have:=HL3.out;omega,E3,E4,?_,HM5⟩;obtain⟨x1,x2,x3,x4⟩:=HW.out;obtain⟨z1,z2,z3⟩:=HW3.out;have:=hl2.out;have:=HL3.out;exact⟨P.wf_or x1 z1,by rw[P.good_or];exact⟨x2,z2⟩,by rw[P.tall_or,P.count_or];omega,by rw[P.count_or];omega⟩
    rw[Kw E3.out,Kw H3.out];have:=hl2.out;have:=HL3.out;omega
   have HR1:Hid (M=none):=by rw[HM4.out,f1];rfl
   have F4:Hid (But p w.heap.size w w3):=G5.out.trans (f4.mono G5.out.size);clear f1 f4 HM4;simp only[Nv]
   go_wp2
   go_ret2
   exact .inr ⟨HR1,q,rfl,F4⟩
 have HR1:Hid (M=none):=by rw[HM.out,h1];rfl
 have H4:=iH h4;clear h1 h4 HM;simp only[Nv]
 go_wp2
 go_ret2
 exact .inr ⟨HR1,q,rfl,H4⟩
end Go.Proofs.YthboopnmbglkjaaGreat
