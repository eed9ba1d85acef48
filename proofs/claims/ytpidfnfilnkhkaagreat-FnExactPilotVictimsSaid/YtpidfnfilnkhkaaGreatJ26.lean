import Derived.Test.YtpidfnfilnkhkaaGreatJ25
import Derived.DeepKeys4
set_option maxHeartbeats 4000000
set_option maxRecDepth 100000
namespace Go.Proofs.YtpidfnfilnkhkaaGreat
open Go.RowKit Go.WideMaps Go.Maps Tryz
def Wp(t:BA)(ms:List BA)(z:BA):Bool:=decide (Aq t=0)&&Bw (Dn ms z) (Dj t)
theorem nI{t:BA}(h:Aq t=0):0<(Bf t).length/\cH (Bf t)/\∀ms,Iz (Bf t) ms=Bw ms (Dj t):=by
 obtain⟨hw,hn,h20,hc⟩:=Ln h;rw[Jc h rfl];rcases hn with e|hn
 .rw[e]
  refine⟨by decide,⟨by decide,?_⟩,λms=>rfl⟩;intro n hn;simp[post,P.nonT]at hn;subst hn;exact⟨zL,zL⟩
 .have hv:=Vg hw hn (by omega)
  have ht:=Ot hw hn;rw[decide_eq_true h20]at hv;rw[if_pos h20]at ht;refine⟨?_,⟨?_,?_⟩,λms=>?_⟩
  .rw[Pw _ hw]
   rcases P.wf_cases hw with e|⟨n,e⟩|⟨n,v,e⟩|⟨k,_,e⟩|⟨a,b,_,_,e⟩|⟨a,b,_,_,e⟩
   .rw[e];decide
   .rw[e];exact Nat.one_pos
   .rw[e];exact Nat.one_pos
   .rw[e,P.count_nt];omega
   .rw[e,P.count_an];omega
   .rw[e,P.count_or];omega
  .rw[Pw _ hw];omega
  .intro n hm
   have:=Wm _ hw hn n hm;omega
  .rw[Iz,hv,ht]
   rfl
def SevC(p q:Nat)(c0 c1 c2 c3 c4 c5 c6:Value)(w:World):Prop:=w.cell? ⟨p,0,none⟩=some c0/\w.cell? ⟨p,1,none⟩=some c1/\w.cell? ⟨p,2,none⟩=some c2/\w.cell? ⟨p,3,none⟩=some c3/\w.cell? ⟨p,4,none⟩=some c4/\w.cell? ⟨p,5,none⟩=some c5/\w.cell? ⟨q,0,none⟩=some c6
theorem SevC.below{p q:Nat}{c0 c1 c2 c3 c4 c5 c6:Value}{w w':World}(h:SevC p q c0 c1 c2 c3 c4 c5 c6 w)(hb:Below w.heap.size w w'):SevC p q c0 c1 c2 c3 c4 c5 c6 w':=by
 obtain⟨h0,h1,h2,h3,h4,h5,h6⟩:=h;exact⟨(hb.cell (p:=⟨p,0,none⟩) (block_lt_of_cell h0)).trans h0,(hb.cell (p:=⟨p,1,none⟩) (block_lt_of_cell h1)).trans h1,(hb.cell (p:=⟨p,2,none⟩) (block_lt_of_cell h2)).trans h2,(hb.cell (p:=⟨p,3,none⟩) (block_lt_of_cell h3)).trans h3,(hb.cell (p:=⟨p,4,none⟩) (block_lt_of_cell h4)).trans h4,(hb.cell (p:=⟨p,5,none⟩) (block_lt_of_cell h5)).trans h5,(hb.cell (p:=⟨q,0,none⟩) (block_lt_of_cell h6)).trans h6⟩
theorem aF(t nm z:BA)(ms:List BA)(a:OA)(cap lo:Nat)(rm hd:Int)(cl:Bool)(w:World)(hin:SliceC StrC 1 lo w a ms)(hml:ms.length<=1000)(hz:z.size<=1000)(ht:t.size<=maxLen) :
  Calls prog 69 #[.string t,.agg #[.string nm,.string z,.slice a ms.length cap,.int .i64 rm,.int .i64 hd,.bool cl]] w (Rt (.bool (Wp t ms z)) w):=by
 have HSZ:Hid (∀s∈ms,s.size<=maxLen):=λs hs=>by
  obtain⟨j,hj⟩:=List.getElem?_of_mem hs;obtain⟨_,_,_,_,_,hc⟩:=hin.at hj;exact hc.2
 have HI:=iH hin;clear hin;go_enter func69,ntmps69;go_upto_region 1 with fail;have hal:=(Below.refl _ w).alloc nL (Obj.cells #[.string nm,.string z,.slice a ms.length cap,.int .i64 rm,.int .i64 hd,.bool cl] 52);have e0:(w.alloc (Obj.cells #[.string nm,.string z,.slice a ms.length cap,.int .i64 rm,.int .i64 hd,.bool cl] 52)).cell? ⟨w.heap.size,0,none⟩=some (.string nm):=by simp
 have e1:(w.alloc (Obj.cells #[.string nm,.string z,.slice a ms.length cap,.int .i64 rm,.int .i64 hd,.bool cl] 52)).cell? ⟨w.heap.size,1,none⟩=some (.string z):=by simp
 have e2:(w.alloc (Obj.cells #[.string nm,.string z,.slice a ms.length cap,.int .i64 rm,.int .i64 hd,.bool cl] 52)).cell? ⟨w.heap.size,2,none⟩=some (.slice a ms.length cap):=by simp
 have e3:(w.alloc (Obj.cells #[.string nm,.string z,.slice a ms.length cap,.int .i64 rm,.int .i64 hd,.bool cl] 52)).cell? ⟨w.heap.size,3,none⟩=some (.int .i64 rm):=by simp
 have e4:(w.alloc (Obj.cells #[.string nm,.string z,.slice a ms.length cap,.int .i64 rm,.int .i64 hd,.bool cl] 52)).cell? ⟨w.heap.size,4,none⟩=some (.int .i64 hd):=by simp
 have e5:(w.alloc (Obj.cells #[.string nm,.string z,.slice a ms.length cap,.int .i64 rm,.int .i64 hd,.bool cl] 52)).cell? ⟨w.heap.size,5,none⟩=some (.bool cl):=by simp
 have HI1:=qSl StrC.holds HI hal;have HB1:=iH hal;clear hal HI;generalize(w.alloc (Obj.cells #[.string nm,.string z,.slice a ms.length cap,.int .i64 rm,.int .i64 hd,.bool cl] 52))=w1 at *;go_wp2_with fail;refine(Zg t _ ht).mono ?_;rintro e w2⟨an,cn,rfl,hn,hb2⟩;have HE0:Hid (w2.cell? ⟨w.heap.size,0,none⟩=some (.string nm)):=(hb2.cell (p:=⟨w.heap.size,0,none⟩) (block_lt_of_cell e0)).trans e0;have HE1:Hid (w2.cell? ⟨w.heap.size,1,none⟩=some (.string z)):=(hb2.cell (p:=⟨w.heap.size,1,none⟩) (block_lt_of_cell e1)).trans e1;have HE2:Hid (w2.cell? ⟨w.heap.size,2,none⟩=some (.slice a ms.length cap)):=(hb2.cell (p:=⟨w.heap.size,2,none⟩) (block_lt_of_cell e2)).trans e2;have HE3:Hid (w2.cell? ⟨w.heap.size,3,none⟩=some (.int .i64 rm)):=(hb2.cell (p:=⟨w.heap.size,3,none⟩) (block_lt_of_cell e3)).trans e3;have HE4:Hid (w2.cell? ⟨w.heap.size,4,none⟩=some (.int .i64 hd)):=(hb2.cell (p:=⟨w.heap.size,4,none⟩) (block_lt_of_cell e4)).trans e4;have HE5:Hid (w2.cell? ⟨w.heap.size,5,none⟩=some (.bool cl)):=(hb2.cell (p:=⟨w.heap.size,5,none⟩) (block_lt_of_cell e5)).trans e5;have HI2:=qSl StrC.holds HI1 hb2;have HB2:=qTH HB1 hb2;have HN2:Hid (AP w2 0 an (Bf t)):=hn.imp id (λ⟨g,h1,_,h3⟩=>⟨g,h1,zL,h3⟩);clear hb2 hn HI1 HB1 e0 e1 e2 e3 e4 e5;have hal:=(Below.refl _ w2).alloc nL (Obj.cells #[.slice an (Bf t).length cn] 158);have HI3:Hid (SliceC StrC 1 lo (w2.alloc (Obj.cells #[.slice an (Bf t).length cn] 158)).drew a ms):=(HI2.out.below StrC.holds hal nL).below StrC.holds ((Below.refl _ (w2.alloc (Obj.cells #[.slice an (Bf t).length cn] 158))).drew) nL;have HB3:Hid (Below w.heap.size w (w2.alloc (Obj.cells #[.slice an (Bf t).length cn] 158)).drew):=(qTr HB2 hal).drew;have HN3:Hid (∀g,Nodes0 w2 g (Bf t)->Nodes0 (w2.alloc (Obj.cells #[.slice an (Bf t).length cn] 158)).drew g (Bf t)):=λg h=>(h.grown hal).grown ((Below.refl _ (w2.alloc (Obj.cells #[.slice an (Bf t).length cn] 158))).drew)
 have HS3:Hid (SevC w.heap.size w2.heap.size (.string nm) (.string z) (.slice a ms.length cap) (.int .i64 rm) (.int .i64 hd) (.bool cl) (.slice an (Bf t).length cn) (w2.alloc (Obj.cells #[.slice an (Bf t).length cn] 158))):=SevC.below (w:=(w2.alloc (Obj.cells #[.slice an (Bf t).length cn] 158))) ⟨(hal.cell (p:=⟨w.heap.size,0,none⟩) (block_lt_of_cell HE0)).trans HE0,(hal.cell (p:=⟨w.heap.size,1,none⟩) (block_lt_of_cell HE1)).trans HE1,(hal.cell (p:=⟨w.heap.size,2,none⟩) (block_lt_of_cell HE2)).trans HE2,(hal.cell (p:=⟨w.heap.size,3,none⟩) (block_lt_of_cell HE3)).trans HE3,(hal.cell (p:=⟨w.heap.size,4,none⟩) (block_lt_of_cell HE4)).trans HE4,(hal.cell (p:=⟨w.heap.size,5,none⟩) (block_lt_of_cell HE5)).trans HE5,by simp⟩ (Below.refl _ _);clear hal;by_cases hc:Aq t=0
 .have HC:Hid (Aq t=0):=hc
  rw[hc];clear hc;go_upto_region 3 with fail;obtain⟨hpos,hsm,hms⟩:=nI HC;have HSM:=iH hsm;have HR:Hid (Iz (Bf t) (Dn ms z)=Wp t ms z):=by show _=_;rw[hms];unfold Wp;rw[decide_eq_true HC.out];rfl
  obtain⟨g0,han,hn0⟩:∃g,an=some ⟨g,0,none⟩/\Nodes0 w2 g (Bf t):=by
   rcases HN2.out with⟨h,_⟩|⟨g,h1,_,h3⟩
   .rw[h]at hpos;exact absurd hpos (Nat.lt_irrefl _)
   .exact⟨g,h1,h3⟩
  subst han;have HN4:=HN3.out g0 hn0;have HND:Hid (Nodes0 _ g0 (Bf t)):=HN4;clear HN4 hn0 hpos hsm hms HN3 HN2 HI2 HB2 HE0 HE1 HE2 HE3 HE4 HE5;refine wp_region_held_drew (S:=SevC w.heap.size w2.heap.size (.string nm) (.string z) (.slice a ms.length cap) (.int .i64 rm) (.int .i64 hd) (.bool cl) (.slice (some ⟨g0,0,none⟩) (Bf t).length cn)) (by kernel_rfl) (by simpa[SevC]using HS3.out) (λhS=>?_);clear HS3;generalize(w2.alloc (Obj.cells #[.slice (some ⟨g0,0,none⟩) (Bf t).length cn] 158)).drew=w3 at *;generalize w2.heap.size=q2 at *;refine x5 0 12 (.int .i64 0) ?_;refine x5 1 13 (.bool true) ?_;refine x5 2 14 (.bool true) ?_;refine x5 3 15 (.agg #[.slice (some ⟨g0,0,none⟩) (Bf t).length cn]) ?_;refine x5 4 16 (.agg #[.string nm,.string z,.slice a ms.length cap,.int .i64 rm,.int .i64 hd,.bool cl]) ?_;refine rd1 5 ⟨some 17,_,_,_,_,some (2,true)⟩ rfl (λK hK=>?_);go_simp;refine(dL nm z ms a cap lo rm hd cl _ HI3 hml hz HSZ).mono ?_;rintro e w4⟨g4,c4,rfl,hm4,hb⟩;have HM4:=iH hm4;have HND4:Hid (Nodes0 w4 g0 (Bf t)):=HND.out.grown hb;have HB4:=qTH HB3 hb;refine hK.out _ _ (hS.below hb) (λhS=>?_);clear hm4 hb HND HB3 HI3 hK K;refine rd1 6 ⟨some 18,_,_,_,_,some (2,true)⟩ rfl (λK hK=>?_);go_simp;refine(Wt (Bf t) g0 cn (Dn ms z) _ c4 _ HND4 HSM HM4).mono ?_;rintro e w5⟨rfl,hb⟩;rw[HR.out];have HB5:=qTH HB4 hb;refine hK.out _ _ (hS.below hb) (λhS=>?_);clear hb HND4 HB4 HM4 hK K;refine x5 7 19 (.bool (Wp t ms z)) ?_;refine x5 8 4 (.bool (Wp t ms z)) ?_;refine td ?_
  go_wp2
  go_ret;exact⟨rfl,HB5⟩
 .have hc0:¬((Aq t:Nat):Int)=0:=by omega
  have HF:Hid (false=Wp t ms z):=by show _=_;unfold Wp;rw[decide_eq_false hc];rfl
  clear hc;generalize((Aq t:Nat):Int)=q at *;go_upto_region 3 with fail;refine wp_region_held_drew (S:=SevC w.heap.size w2.heap.size (.string nm) (.string z) (.slice a ms.length cap) (.int .i64 rm) (.int .i64 hd) (.bool cl) (.slice an (Bf t).length cn)) (by kernel_rfl) (by simpa[SevC]using HS3.out) (λhS=>?_);clear HS3;clear HN3 HN2 HI2 HB2 HE0 HE1 HE2 HE3 HE4 HE5 HI3;generalize(w2.alloc (Obj.cells #[.slice an (Bf t).length cn] 158)).drew=w3 at *;generalize w2.heap.size=q2 at *;refine x5 0 12 (.int .i64 q) ?_;refine x5 1 13 (.bool false) ?_;refine x5 2 14 (.bool false) ?_;refine ts 3 15 ?_;refine ts 4 16 ?_;refine ts 5 17 ?_;refine ts 6 18 ?_;refine x5 7 19 (.bool false) ?_;refine x5 8 4 (.bool false) ?_;refine td ?_
  go_wp2
  go_ret;exact⟨Ab HF,HB3⟩
theorem aZ(t:BA)(a b:List BA):Ck t (a++b)=Ck t a+Ck t b:=by simp[Ck]
theorem Sh(a b:List BA)(t:BA):Iu (a++b) t=(Iu a t||Iu b t):=by
 unfold Iu;rw[aZ,Bool.eq_iff_iff];simp;omega
theorem BL(t:BA):Iu [] t=false:=rfl
theorem Qf(s t:BA):Iu [s] t=decide (s=t):=by
 unfold Iu;by_cases h:s=t
 .subst h;rw[Lh];simp
 .rw[Hg h];simp[Ck,h]
theorem bZ(s r t:BA):Iu [s,r] t=(decide (s=t)||decide (r=t)):=by
 rw[show[s,r]=[s]++[r]from rfl,Sh,Qf,Qf]
theorem rX{m n:BA}(hn:P.nameOk n=true)(h:¬Cc m<0):¬m=n:=by
 intro e;subst e;rw[Lo hn]at h;omega
theorem tH{n:BA}(hn:P.nameOk n=true)(m vl:BA):Iu (Pf m) n=Oo true n vl m:=by
 unfold Pf Oo
 cases Ec m with
 |false=>rfl
 | true =>
  by_cases h:Cc m<0
  .simp only[if_pos h,if_true]
   rw[Qf];simp
  .simp only[if_neg h,if_true]
   rw[bZ,decide_eq_false (rX hn h)];simp
theorem Jz(n v:BA):(n++eqB++v).data.toList=n.data.toList++61::v.data.toList:=by
 simp[eqB]
theorem iE{a b:BA}(h:a.data.toList=b.data.toList):a=b:=by
 cases a with|mk x=>cases b with|mk y=>cases x;cases y;simp at h;simp[h]
theorem Me(s:BA):s.data.toList.length=s.size:=by simp
theorem Pk(s:BA)(a b:Nat):(s.extract a b).data.toList=(s.data.toList.drop a).take (b-a):=by
 rw[ByteArray.data_extract,Array.toList_extract]
theorem Uv{n:BA}(hn:P.nameOk n=true)(v:BA):Cc (n++eqB++v)=(n.size:Int):=by
 have hno:=Lo hn;have hlen:=Me n;have hs:(n++eqB++v).size=n.size+1+v.size:=by rw[ByteArray.size_append,ByteArray.size_append];rfl
 refine cU (by omega) ?_ ?_
 .have:(n++eqB++v).data.toList[n.size]?=some 61:=by rw[Jz,List.getElem?_append_right (by omega),hlen];simp
  obtain⟨h1,h2⟩:=List.getElem?_eq_some_iff.1 this;have h3:(n++eqB++v)[n.size]=61:=h2;rw[h3];rfl
 .intro j hj
  rw[Jz,List.getElem?_append_left (by omega)];exact Lib.indexByte_none hno j
theorem pQ{n:BA}(hn:P.nameOk n=true)(v:BA):Ar (n++eqB++v)=n:=by
 unfold Ar;rw[Uv hn,if_neg (by omega)];apply iE;rw[Pk,Jz,List.drop_zero,Int.toNat_natCast,Nat.sub_zero];exact List.take_left' (Me n)
theorem rN{n:BA}(hn:P.nameOk n=true)(v:BA):Fm (n++eqB++v)=v:=by
 unfold Fm;rw[Uv hn,if_neg (by omega)];apply iE;have hlen:=Me n;have hs:(n++eqB++v).size=n.size+1+v.size:=by rw[ByteArray.size_append,ByteArray.size_append];rfl
 rw[Pk,Jz,hs,Int.toNat_natCast,show n.data.toList++61::v.data.toList=(n.data.toList++[61])++v.data.toList by simp];rw[List.drop_left' (by simp)];exact List.take_of_length_le (by rw[Me];omega)
theorem wL{m:BA}(h:¬Cc m<0):Ar m++eqB++Fm m=m:=by
 obtain⟨o,ho⟩:∃o:Nat,Cc m=o:=⟨(Cc m).toNat,by omega⟩;have hlt:=We ho;have h2:=(Lib.indexByte_some ho).1;apply iE;rw[Jz];unfold Ar Fm;rw[if_neg h,if_neg h,Pk,Pk,ho,Int.toNat_natCast,List.drop_zero,Nat.sub_zero];rw[List.take_of_length_le (l:=m.data.toList.drop (o+1)) (by rw[List.length_drop,Me];omega)];obtain⟨h3,h4⟩:=List.getElem?_eq_some_iff.1 h2;rw[<-h4,<-List.drop_eq_getElem_cons h3,List.take_append_drop]
theorem oB{n v:BA}(hn:P.nameOk n=true)(hv:P.nameOk v=true)(m:BA):Iu (Pf m) (n++eqB++v)=Oo false n v m:=by
 unfold Pf Oo
 cases hmk:Ec m with
 |false=>rfl
 | true =>
  have hnm:¬Ar m=n++eqB++v:=by
   intro e;have h1:=Lo (Qi hmk);rw[e,Uv hn]at h1;omega
  by_cases h:Cc m<0
  .simp only[if_pos h,if_true]
   rw[Qf,decide_eq_false hnm];have hv0:¬Fm m=v:=by
    intro e;have h1:=(P.nameOk_pos hv).1;rw[<-e]at h1;unfold Fm at h1;rw[if_pos h]at h1;exact absurd h1 (by decide)
   rw[decide_eq_false hv0];simp
  .simp only[if_neg h,if_true]
   rw[bZ,decide_eq_false hnm,Bool.or_false,Bool.eq_iff_iff];simp only[Bool.true_and,Bool.false_or,Bool.and_eq_true,decide_eq_true_eq];constructor
   .intro e
    rw[e];exact⟨pQ hn v,rN hn v⟩
   .rintro⟨e1,e2⟩
    rw[<-wL h,e1,e2]
theorem aT{Z:List BA}{one:Bool}{nm vl x:BA}(H:∀m,Iu (Pf m) x=Oo one nm vl m):∀k,Iu (Cy Z k) x=Eo Z one nm vl k
 |0=>rfl
 | k+1=>by
  unfold Cy Eo
  cases h:Z[k]? with
  |none=>simp only[Bool.or_false];exact aT H k
  |some m =>
   simp only[];rw[Sh,H m,aT H k,Bool.or_comm]
theorem sF(Z:List BA)(y:P.Tr)(hw:P.wf y):nOk y->Db (Cy Z Z.length) y=Bw Z y:=by
 refine P.wf_ind (p:=λy=>nOk y->Db (Cy Z Z.length) y=Bw Z y) ?_ ?_ ?_ ?_ ?_ ?_ y hw
 .intro _;rfl
 .intro n hn
  exact aT (tH (hn.2.1 rfl) · _) _
 .intro n v hn
  obtain⟨h1,h2⟩:=hn.2.2.1 rfl;exact aT (oB h1 h2) _
 .intro k _ ih hn
  show(!Db _ k)=!Bw _ k
  rw[ih hn.2.2.2.1]
 .intro a b _ _ ia ib hn
  show(Db _ a&&Db _ b)=(Bw _ a&&Bw _ b)
  rw[ia hn.2.2.2.1,ib hn.2.2.2.2]
 .intro a b _ _ ia ib hn
  show(Db _ a||Db _ b)=(Bw _ a||Bw _ b)
  rw[ia hn.2.2.2.1,ib hn.2.2.2.2]
theorem wM(t:BA)(ms:List BA)(z:BA):Dg t ms z=Wp t ms z:=by
 unfold Dg Wp;by_cases h:Aq t=0
 .obtain⟨hw,hn,_,_⟩:=Ln h
  rcases hn with e|hn
  .rw[e];rfl
  .rw[sF _ _ hw hn]
 .rw[decide_eq_false h];rfl
def Cd(f:Nat->Bool):Nat->Bool
 |0=>false
 |k+1=>Cd f k||f k
theorem Fb{f:Nat->Bool}{k:Nat}(h:f k=true):Cd f (k+1)=true:=by simp[Cd,h]
theorem Bg{f:Nat->Bool}{k:Nat}(h:f k=false):Cd f (k+1)=Cd f k:=by simp[Cd,h]
theorem Et{f:Nat->Bool}{k:Nat}:∀n,k<=n->Cd f k=true->Cd f n=true
 |0,h,e=>by
  have:k=0:=by omega
  subst this;exact e
 |n+1,h,e=>by
  by_cases hk:k=n+1
  .subst hk;exact e
  .simp[Cd,Et n (by omega) e]
def Bq(x:Flt)(ci:Nat)(nm:BA):Nat->Int
 |0=>0
 |k+1=>Bq x ci nm k+(match x.copies[k]? with
  |some c=>if c.at_=nm/\k≠ci then c.hold else 0
  |none=>0)
def Ba(x:Flt)(ci:Nat)(nm:BA):Nat->Int
 |0=>0
 |k+1=>Ba x ci nm k+(match x.copies[k]? with
  |some c=>if c.at_=nm/\k≠ci then 1 else 0
  |none=>0)
theorem pR{x:Flt}{ci k:Nat}{nm:BA}{c:Cpy}(hk:x.copies[k]?=some c)(h1:c.at_=nm)(h2:k≠ci):Bq x ci nm (k+1)=Bq x ci nm k+c.hold:=by
 simp only[Bq,hk];rw[if_pos ⟨h1,h2⟩]
theorem Uk{x:Flt}{ci k:Nat}{nm:BA}{c:Cpy}(hk:x.copies[k]?=some c)(h:¬(c.at_=nm/\k≠ci)):Bq x ci nm (k+1)=Bq x ci nm k:=by
 simp only[Bq,hk];rw[if_neg h];omega
theorem kI{x:Flt}{ci k:Nat}{nm:BA}{c:Cpy}(hk:x.copies[k]?=some c)(h1:c.at_=nm)(h2:k≠ci):Ba x ci nm (k+1)=Ba x ci nm k+1:=by
 simp only[Ba,hk];rw[if_pos ⟨h1,h2⟩]
theorem Sa{x:Flt}{ci k:Nat}{nm:BA}{c:Cpy}(hk:x.copies[k]?=some c)(h:¬(c.at_=nm/\k≠ci)):Ba x ci nm (k+1)=Ba x ci nm k:=by
 simp only[Ba,hk];rw[if_neg h];omega
theorem Rh{x:Flt}(ci:Nat)(nm:BA)(hc:∀(k:Nat) (c:Cpy),x.copies[k]?=some c->0<=c.hold/\c.hold<=1000):∀k,0<=Bq x ci nm k/\Bq x ci nm k<=1000*k
 |0=>by simp[Bq]
 | k+1=>by
  have ih:=Rh ci nm hc k;simp only[Bq]
  cases h:x.copies[k]? with
  |none=>simp only;omega
  |some c =>
   have h1:=hc k c h;simp only
   split<;>omega
theorem Vz{x:Flt}(ci:Nat)(nm:BA):∀k:Nat,0<=Ba x ci nm k/\Ba x ci nm k<=k
 |0=>by simp[Ba]
 | k+1=>by
  have ih:=Vz (x:=x) ci nm k;simp only[Ba]
  cases h:x.copies[k]? with
  |none=>simp only;omega
  |some c =>
   simp only
   split<;>omega
theorem gF{x:Flt}(ci:Nat)(nm:BA)(hc:∀(k:Nat) (c:Cpy),x.copies[k]?=some c->0<=c.hold/\c.hold<=1000):∀k,k<=60->(Ap x.copies nm ci k).2.2=Bq x ci nm k
 |0,_=>rfl
 | k+1,hk=>by
  have ih:=gF ci nm hc k (by omega);have hb:=Rh ci nm hc k;unfold Ap Bq
  cases h:x.copies[k]? with
  |none=>simp only;omega
  | some c =>
   have h1:=hc k c h;simp only;by_cases e:c.at_=nm/\k≠ci
   .rw[if_pos e,if_pos ⟨e.1,by omega⟩]
    simp only;rw[ih];unfold wrap64;omega
   .rw[if_neg e,if_neg (λh=>e ⟨h.1,by omega⟩)]
    omega
theorem Xo{x:Flt}(ci:Nat)(nm:BA):∀k,k<=60->(Ap x.copies nm ci k).1=Ba x ci nm k
 |0,_=>rfl
 | k+1,hk=>by
  have ih:=Xo (x:=x) ci nm k (by omega);have hb:=Vz (x:=x) ci nm k;unfold Ap Ba
  cases h:x.copies[k]? with
  |none=>simp only;omega
  | some c =>
   simp only;by_cases e:c.at_=nm/\k≠ci
   .rw[if_pos e,if_pos ⟨e.1,by omega⟩]
    simp only;rw[ih];unfold wrap64;omega
   .rw[if_neg e,if_neg (λh=>e ⟨h.1,by omega⟩)]
    omega
theorem De{x:Flt}(h:Au x=true):(∀(k:Nat)(c:Cpy),x.copies[k]?=some c->(0<=c.hold/\c.hold<=1000)/\(0<=c.apart/\c.apart<=2))/\∀(k:Nat)(b:Brt),x.berths[k]?=some b->0<=b.hold/\b.hold<=1000:=by
 unfold Au at h;simp only[Bool.and_eq_true,Dm,Eu,Ca,Bm,Lf,decide_eq_true_eq]at h;obtain⟨⟨⟨_,_⟩,_⟩,⟨⟨_,_⟩,_⟩,h2,_,h3,_⟩:=h;refine⟨λk c hc=>?_,λk b hb=>?_⟩
 .have h4:=h3 k c hc
  simp only[Hi,Cj,Bool.and_eq_true,Bool.or_eq_true,inR,decide_eq_true_eq]at h4;obtain⟨⟨_,_⟩,h6⟩:=h4;exact⟨h6.1.1.1.1.1.2,h6.1.1.2⟩
 .have h4:=h2 k b hb
  simp only[Hc,Bool.and_eq_true,inR,decide_eq_true_eq]at h4;exact h4.1.2
def Ls(a c:Int)(hb hz:Bool):Bool:=(hb&&(decide (a≠0)||decide (c≠0)))||(hz&&(decide (a=2)||decide (c=2)))
def Nw(x:Flt)(ci:Nat)(y:Cpy)(b:Brt)(i:Nat):Bool:=match x.copies[i]? with
 |some c=>decide (i≠ci)&&decide (c.service=y.service)&&decide (¬c.at_=⟨#[]⟩)&&Ls c.apart y.apart (decide (c.at_=b.name)) (decide (Dc x.berths c.at_=b.zone))
 |none=>false
def stF(x:Flt)(ci:Nat)(sv:BA)(i:Nat):Bool:=match x.copies[i]? with
 |some c=>decide (i≠ci)&&decide (c.service=sv)&&decide (¬c.at_=⟨#[]⟩)
 |none=>false
theorem Jm{x:Flt}{ci k:Nat}{y:Cpy}{b:Brt}{c:Cpy}(hk:x.copies[k]?=some c)(h:¬(k≠ci/\c.service=y.service/\(¬c.at_=⟨#[]⟩)/\Ls c.apart y.apart (decide (c.at_=b.name)) (decide (Dc x.berths c.at_=b.zone))=true)):Nw x ci y b k=false:=by
 unfold Nw;rw[hk];simp only[Bool.and_eq_false_iff,decide_eq_false_iff_not];by_cases h1:k≠ci
 .by_cases h2:c.service=y.service
  .by_cases h3:¬c.at_=⟨#[]⟩
   .exact Or.inr (by
     cases hn:Ls c.apart y.apart (decide (c.at_=b.name)) (decide (Dc x.berths c.at_=b.zone))with
     |false=>rfl
     |true=>exact absurd ⟨h1,h2,h3,hn⟩ h)
   .exact Or.inl (Or.inr h3)
  .exact Or.inl (Or.inl (Or.inr h2))
 .exact Or.inl (Or.inl (Or.inl h1))
theorem Qc{x:Flt}{ci k:Nat}{y:Cpy}{b:Brt}{c:Cpy}(hk:x.copies[k]?=some c)(h1:k≠ci)(h2:c.service=y.service)(h3:¬c.at_=⟨#[]⟩)(h4:Ls c.apart y.apart (decide (c.at_=b.name)) (decide (Dc x.berths c.at_=b.zone))=true):Nw x ci y b k=true:=by
 unfold Nw;rw[hk];simp only[Bool.and_eq_true,decide_eq_true_eq];exact⟨⟨⟨h1,h2⟩,h3⟩,h4⟩
theorem eH{x:Flt}{ci k:Nat}{sv:BA}{c:Cpy}(hk:x.copies[k]?=some c)(h:¬(k≠ci/\c.service=sv/\¬c.at_=⟨#[]⟩)):stF x ci sv k=false:=by
 unfold stF;rw[hk];simp only[Bool.and_eq_false_iff,decide_eq_false_iff_not];by_cases h1:k≠ci
 .by_cases h2:c.service=sv
  .exact Or.inr (λh3=>h ⟨h1,h2,h3⟩)
  .exact Or.inl (Or.inr h2)
 .exact Or.inl (Or.inl h1)
theorem sR{x:Flt}{ci k:Nat}{sv:BA}{c:Cpy}(hk:x.copies[k]?=some c)(h1:k≠ci)(h2:c.service=sv)(h3:¬c.at_=⟨#[]⟩):stF x ci sv k=true:=by
 unfold stF;rw[hk];simp only[Bool.and_eq_true,decide_eq_true_eq];exact⟨⟨h1,h2⟩,h3⟩
def Gn(x:Flt)(ci:Nat)(y:Cpy)(b:Brt):Bool:=Cd (Nw x ci y b) x.copies.length
def Fq(x:Flt)(ci:Nat)(y:Cpy)(b:Brt):Bool:=decide (¬y.near=⟨#[]⟩)&&(!Cd (znF x ci y.near b.zone) x.copies.length)&&(Cd (stF x ci y.near) x.copies.length||decide (¬y.near=y.service))
def Hn(y:Cpy)(b:Brt):Bool:=decide (¬y.fixed=⟨#[]⟩)&&decide (¬y.fixed=b.name)
def Ed(x:Flt)(ci:Nat)(y:Cpy)(b:Brt)(op:Bool):Int :=
 if (b.closed&&!op)=true then 1 else if Hn y b=true then 2 else if Dg y.select b.marks b.zone=false then 3 else if Gn x ci y b=true then 4 else if Fq x ci y b=true then 5 else if 10<=Ba x ci b.name x.copies.length then 6 else if b.room<Bn x ci b.name x.copies.length+y.room then 7 else if b.hold<Bq x ci b.name x.copies.length+y.hold then 8 else 0
theorem kZ{x:Flt}{ci:Nat}{y:Cpy}{b:Brt}(h:y.near=⟨#[]⟩):Fq x ci y b=false:=by
 unfold Fq;rw[decide_eq_false (λk=>k h)];rfl
theorem mK{x:Flt}{ci:Nat}{y:Cpy}{b:Brt}(h:Cd (znF x ci y.near b.zone) x.copies.length=true):Fq x ci y b=false:=by
 unfold Fq;rw[h];simp
theorem kE{x:Flt}{ci:Nat}{y:Cpy}{b:Brt}{f0 q:Bool}(h1:¬y.near=⟨#[]⟩)(h2:Cd (znF x ci y.near b.zone) x.copies.length=false)(h3:Cd (stF x ci y.near) x.copies.length=q)(h4:f0=decide (¬y.near=y.service)):Fq x ci y b=(f0||q):=by
 unfold Fq;rw[h2,h3,<-h4,decide_eq_true h1];cases f0<;>cases q<;>rfl
theorem uJ:laidOutB prog=true:=by kernel_rfl
theorem CG:(237:TypeId)<prog.types.size:=of_decide_eq_true (by kernel_rfl)
theorem AR:(match prog.underlying 237 with|some (.array _ _)|some (.struct _)=>true|_=>false)=true:=by rw[underlying237]
theorem eI:Keyed prog 237:=Keyed.of_law (deep_law_laid uJ (m:=2) (by decide) CG (by kernel_rfl) AR)
def Nt(v:Value):Option (DataW Unit×List MemPlace):=match v with
 |.agg cs=>match cs.toList with
  |[.bool x]=>some (.lit (.bool x),[])
  |_=>none
 |_=>none
theorem Ua(x:Bool):Nt (.agg #[.bool x])=some (.lit (.bool x),[]):=rfl
theorem dY{v:Value}{z:DataW Unit×List MemPlace}(h:Nt v=some z):∃x,v=.agg #[.bool x]/\z=(.lit (.bool x),[]):=by
 cases v with
 |agg cs =>
  obtain⟨l⟩:=cs
  match l,h with
  |[.bool x],h=>exact⟨x,rfl,(Option.some.inj h).symm⟩
 |_=>cases h
theorem rJ:prog.keyType 237=true:=by kernel_rfl
theorem wU(t:BA)(k:Int):(Value.agg #[.string t,.int .i64 k]).formed prog 237=true:=by kernel_rfl
theorem AH:prog.cellsOf 237=2:=by kernel_rfl
theorem AA:prog.cellsOf 9=1:=by kernel_rfl
theorem yU:prog.cellsOf 3=1:=by kernel_rfl
theorem AZ(d:Nat){t:BA}(ht:t.size<=maxLen):prog.keyLits (d+1) 9 [.string t]=some [.string t.data.toList]:=by
 unfold Program.keyLits;rw[underlying9];exact if_pos ht
theorem BK(d:Nat){k:Int}(hk:(Lit.int .i64 k).wf=true):prog.keyLits (d+1) 3 [.int .i64 k]=some [.int .i64 k]:=by
 unfold Program.keyLits;rw[underlying3];exact if_pos ⟨rfl,hk⟩
theorem AM(t:BA)(k:Nat)(ht:t.size<=maxLen)(hk:k<=1048576):∃l,keyOf prog 237 (.agg #[.string t,.int .i64 k])=some l:=by
 have hw:(Lit.int .i64 (k:Int)).wf=true:=WalkArith.wf_i64 (by omega);obtain⟨d,hd⟩:∃d,prog.types.size=d+1:=⟨318-1,by kernel_rfl⟩;unfold keyOf;rw[underlying237];simp only[rJ,wU,Bool.and_self,if_true];rw[hd];unfold Program.keyLits;rw[underlying237];refine⟨.string (keyBytes [.string t.data.toList,.int .i64 k]),?_⟩;have hc:(Value.agg #[Value.string t,Value.int IntKind.i64 k]).cells.toList=[.string t,.int .i64 k]:=rfl;rw[hc];simp only[AH,List.length_cons,List.length_nil];rw[if_pos ⟨trivial,by kernel_rfl⟩];simp only[List.mapM_cons,List.mapM_nil,AA,yU,List.drop_zero,List.take_succ_cons,List.take_zero,List.drop_succ_cons,AZ d ht,BK d hw];rfl
def MemoOk(bs:List Brt)(D:DataW Unit):Prop:=IsMap D/\∀(t:BA)(k:Nat)(b:Brt)(l:Lit),bs[k]?=some b->keyOf prog 237 (.agg #[.string t,.int .i64 ((k:Nat):Int)])=some l->has D l=true->D.atKey l (.lit (.bool false))=.lit (.bool (Dg t b.marks b.zone))
theorem MemoOk.nil(bs:List Brt):MemoOk bs (.map []):=⟨⟨_,rfl⟩,λ_ _ _ _ _ _ h=>by cases h⟩
theorem MemoOk.put{bs:List Brt}{D:DataW Unit}{t:BA}{k:Nat}{b:Brt}{l:Lit}(h:MemoOk bs D)(hb:bs[k]?=some b)(hl:keyOf prog 237 (.agg #[.string t,.int .i64 ((k:Nat):Int)])=some l):MemoOk bs (D.put l (.lit (.bool (Dg t b.marks b.zone)))):=by
 refine⟨IsMap.put h.1 _ _,λt' k' b' l' hb' hl' hh=>?_⟩;by_cases e:l'=l
 .subst e
  have h1:=eI.inj hl hl';simp at h1;obtain⟨rfl,h2⟩:=h1;have h3:k'=k:=by omega
  subst h3;rw[hb]at hb';cases hb'
  exact atKey_put_same h.1 (eI.key hl) _ _
 .rw[has_put_other e]at hh
  rw[atKey_put_other e];exact h.2 t' k' b' l' hb' hl' hh
theorem sB(w:World):(zeroValue 239).run prog w=.ok (.agg #[.bool false]) w:=by kernel_rfl
def Found(p m1 m2 m3 m4:Nat)(x:Flt)(a1:OA)(c1:Nat)(a2:OA)(c2:Nat)(a3:OA)(c3:Nat)(w:World):Prop :=
 w.rangeAt p 0 (uP x a1 c1 a2 c2 a3 c3 m1 m2 m3 m4)/\p<w.heap.size/\w.ownsMap prog 9 (plainElem prog 3) m1 x.berths.length (Ah (x.berths.map (·.name)) x.berths.length)/\w.ownsMap prog 9 (plainElem prog 3) m2 x.services.length (Ah (x.services.map (·.name)) x.services.length)/\w.ownsMap prog 9 (plainElem prog 3) m3 x.copies.length (Ah (x.copies.map (·.name)) x.copies.length)/\w.heap[m4]?=some (Obj.map #[] 0)
theorem Found.below{p m1 m2 m3 m4:Nat}{x:Flt}{a1:OA}{c1:Nat}{a2:OA}{c2:Nat}{a3:OA}{c3:Nat}{w w':World}(h:Found p m1 m2 m3 m4 x a1 c1 a2 c2 a3 c3 w)(hb:Below w.heap.size w w'):Found p m1 m2 m3 m4 x a1 c1 a2 c2 a3 c3 w' :=
 ⟨Ae h.1 hb h.2.1,lL h.2.1 hb.size,Af h.2.2.1 hb h.2.2.1.lt,Af h.2.2.2.1 hb h.2.2.2.1.lt,Af h.2.2.2.2.1 hb h.2.2.2.2.1.lt,(hb.block m4 (Array.getElem?_eq_some_iff.1 h.2.2.2.2.2).1).trans h.2.2.2.2.2⟩
theorem Found.ins{p m1 m2 m3 m4:Nat}{x:Flt}{a1:OA}{c1:Nat}{a2:OA}{c2:Nat}{a3:OA}{c3:Nat}{w:World}(h:Found p m1 m2 m3 m4 x a1 c1 a2 c2 a3 c3 w):FndIn p x a1 c1 a2 c2 a3 c3 w :=
 ⟨h.1 1 _ rfl,h.1 2 _ rfl,h.1 3 _ rfl⟩
theorem But.cell{p B:Nat}{w w':World}(h:But p B w w'){a:Addr}(h1:a.block<B)(h2:a.block≠p):w'.cell? a=w.cell? a:=World.cell?_of_block (w:=w) (h.block a.block h1 h2)
theorem But.owns{H:Type}{P:Program}{k:TypeId}{R:Value->Option (DataW H×List MemPlace)}{m n:Nat}{D:DataW H}{p B:Nat}{w w':World}(hb:But p B w w')(h:w.ownsMap P k R m n D)(h1:m<B)(h2:m≠p):w'.ownsMap P k R m n D:=by
 obtain⟨es,clock,q1,q2,q3,q4⟩:=h;exact⟨es,clock,(hb.block m h1 h2).trans q1,q2,q3,q4⟩
def MemoAt(m4:Nat)(n:BA×Nat)(bs:List Brt)(w:World):Prop:=∃(n':Nat)(D':DataW Unit),(n'<=1/\(n'=1->∀l,keyOf prog 237 (.agg #[.string n.1,.int .i64 ((n.2:Nat):Int)])=some l->has D' l=true))/\w.ownsMap prog 237 Nt m4 n' D'/\MemoOk bs D'
theorem MemoAt.lt{m4:Nat}{n:BA×Nat}{bs:List Brt}{w:World}(h:MemoAt m4 n bs w):m4<w.heap.size:=by
 obtain⟨_,_,_,o,_⟩:=h;exact o.lt
theorem MemoAt.below{m4 B:Nat}{n:BA×Nat}{bs:List Brt}{w w':World}(h:MemoAt m4 n bs w)(hb:Below B w w')(hB:m4<B):MemoAt m4 n bs w':=by
 obtain⟨n',D',h1,o,h2⟩:=h;obtain⟨es,clock,q1,q2,q3,q4⟩:=o;exact⟨n',D',h1,⟨es,clock,(hb.block m4 hB).trans q1,q2,q3,q4⟩,h2⟩
theorem MemoAt.drew{m4:Nat}{n:BA×Nat}{bs:List Brt}{w:World}(h:MemoAt m4 n bs w):MemoAt m4 n bs w.drew:=h
theorem Ww{H:Type}{P:Program}{k:TypeId}{R:Value->Option (DataW H×List MemPlace)}{m:Nat}{w:World}(h:w.heap[m]?=some (Obj.map #[] 0)):w.ownsMap P k R m 0 (.map []) :=
 ⟨#[],0,h,⟨by simp,Go.MapKept.stamped_empty 0,by simp⟩,Nat.le_refl _,rfl⟩
def FoundM(p m1 m2 m3 m4:Nat)(n:BA×Nat)(x:Flt)(a1:OA)(c1:Nat)(a2:OA)(c2:Nat)(a3:OA)(c3:Nat)(w:World):Prop :=
 w.rangeAt p 0 (uP x a1 c1 a2 c2 a3 c3 m1 m2 m3 m4)/\p<w.heap.size/\w.ownsMap prog 9 (plainElem prog 3) m1 x.berths.length (Ah (x.berths.map (·.name)) x.berths.length)/\w.ownsMap prog 9 (plainElem prog 3) m2 x.services.length (Ah (x.services.map (·.name)) x.services.length)/\w.ownsMap prog 9 (plainElem prog 3) m3 x.copies.length (Ah (x.copies.map (·.name)) x.copies.length)/\MemoAt m4 n x.berths w/\p≠m4/\(x.berths≠[]->m1≠m4)/\(x.services≠[]->m2≠m4)/\(x.copies≠[]->m3≠m4)
theorem Ks{names:List BA}{m1 m4:Nat}{w:World}(h1:w.ownsMap prog 9 (plainElem prog 3) m1 names.length (Ah names names.length))(h4:w.heap[m4]?=some (Obj.map #[] 0))(hne:names≠[]):m1≠m4:=by
 rintro rfl
 cases names with
 |nil=>exact hne rfl
 | cons nm rest =>
  have hh:=Gv (nm::rest) nm (nm::rest).length;obtain⟨es,clock,e1,_,_,e4⟩:=h1;rw[h4]at e1;cases e1
  rw[e4]at hh
  cases hl:Al (nm::rest) nm (nm::rest).length with
  |none=>exact(Dh (nm::rest) nm (nm::rest).length).1 hl 0 (by simp) rfl
  |some j =>
   rw[hl]at hh;have h2:false=true:=hh;cases h2
theorem FoundM.of{p m1 m2 m3 m4:Nat}{x:Flt}{a1:OA}{c1:Nat}{a2:OA}{c2:Nat}{a3:OA}{c3:Nat}{w:World}(h:Found p m1 m2 m3 m4 x a1 c1 a2 c2 a3 c3 w)(n:BA×Nat):FoundM p m1 m2 m3 m4 n x a1 c1 a2 c2 a3 c3 w:=by
 obtain⟨h1,h2,h3,h4,h5,h6⟩:=h;refine⟨h1,h2,h3,h4,h5,⟨0,_,⟨zL,λh9=>by cases h9⟩,Ww h6,MemoOk.nil _⟩,?_,λe=>?_,λe=>?_,λe=>?_⟩
 .rintro rfl
  have q:=h1 7 _ rfl;simp[World.cell?,h6]at q
 .exact Ks (names:=x.berths.map (·.name)) (by simpa using h3) h6 (by simpa using e)
 .exact Ks (names:=x.services.map (·.name)) (by simpa using h4) h6 (by simpa using e)
 .exact Ks (names:=x.copies.map (·.name)) (by simpa using h5) h6 (by simpa using e)
theorem FoundM.memo{p m1 m2 m3 m4:Nat}{n:BA×Nat}{x:Flt}{a1:OA}{c1:Nat}{a2:OA}{c2:Nat}{a3:OA}{c3:Nat}{w:World}(h:FoundM p m1 m2 m3 m4 n x a1 c1 a2 c2 a3 c3 w):MemoAt m4 n x.berths w:=h.2.2.2.2.2.1
theorem FoundM.below{p m1 m2 m3 m4:Nat}{n:BA×Nat}{x:Flt}{a1:OA}{c1:Nat}{a2:OA}{c2:Nat}{a3:OA}{c3:Nat}{w w':World}(h:FoundM p m1 m2 m3 m4 n x a1 c1 a2 c2 a3 c3 w)(hb:Below w.heap.size w w'):FoundM p m1 m2 m3 m4 n x a1 c1 a2 c2 a3 c3 w' :=
 ⟨Ae h.1 hb h.2.1,lL h.2.1 hb.size,Af h.2.2.1 hb h.2.2.1.lt,Af h.2.2.2.1 hb h.2.2.2.1.lt,Af h.2.2.2.2.1 hb h.2.2.2.2.1.lt,h.memo.below hb h.memo.lt,h.2.2.2.2.2.2⟩
theorem FoundM.but{p m1 m2 m3 m4:Nat}{n n':BA×Nat}{x:Flt}{a1:OA}{c1:Nat}{a2:OA}{c2:Nat}{a3:OA}{c3:Nat}{w w':World}(h:FoundM p m1 m2 m3 m4 n x a1 c1 a2 c2 a3 c3 w)(hb:But m4 w.heap.size w w')(hm:MemoAt m4 n' x.berths w')(e1:x.berths≠[])(e2:x.services≠[])(e3:x.copies≠[]):FoundM p m1 m2 m3 m4 n' x a1 c1 a2 c2 a3 c3 w':=by
 obtain⟨h1,h2,h3,h4,h5,h6,h7,h8,h9,h10⟩:=h;refine⟨λj v hj=>(hb.cell (a:=⟨p,0+j,none⟩) h2 h7).trans (h1 j v hj),lL h2 hb.size,hb.owns h3 h3.lt (h8 e1),hb.owns h4 h4.lt (h9 e2),hb.owns h5 h5.lt (h10 e3),hm,h7,h8,h9,h10⟩
abbrev Ai(p ci bi:Nat)(y:Cpy)(a7:OA)(c7:Nat)(b:Brt)(am:OA)(cm:Nat)(u1 u2 u3:Int):Array Value:=#[.pointer (some ⟨p,0,none⟩),.int .i64 ci,.string y.name,.string y.service,.int .i64 y.rank,.int .i64 y.born,.int .i64 y.room,.int .i64 y.hold,.string y.select,.slice a7 y.likes.length c7,.int .i64 y.apart,.string y.near,.string y.fixed,.string y.at_,.int .i64 bi,.string b.name,.string b.zone,.slice am b.marks.length cm,.int .i64 b.room,.int .i64 b.hold,.bool b.closed,.int .i64 u1,.int .i64 u2,.int .i64 u3]
theorem fU{m n:Nat}{D:DataW Unit}{w:World}{t:BA}{k:Nat}{l:Lit}(h:w.ownsMap prog 237 Nt m n D)(hk:keyOf prog 237 (.agg #[.string t,.int .i64 ((k:Nat):Int)])=some l) :
  ∃B,(Instr.lookup 65 (.map (some m)) (.agg #[.string t,.int .i64 ((k:Nat):Int)]) true).run prog w=.ok (.tuple #[.agg #[.bool B],.bool (has D l)]) w/\D.atKey l (.lit (.bool false))=.lit (.bool B):=by
 obtain⟨v,ps,hrun,hv⟩:=h.look_ok eI underlying65 (sB w) (Ua false) hk;obtain⟨B,rfl,e⟩:=dY hv;refine⟨B,hrun,?_⟩;have:=congrArg Prod.fst e;simpa using this
theorem wQ(p m4 ci bi n:Nat)(y:Cpy)(a7:OA)(c7:Nat)(b:Brt)(am:OA)(cm:Nat)(u1 u2 u3:Int)(bs:List Brt)(D:DataW Unit)(t:BA)(lo:Nat)(w:World)(p7:w.cell? ⟨p,7,none⟩=some (.map (some m4)))(o4:w.ownsMap prog 237 Nt m4 n D)(hm:MemoOk bs D)(hb:bs[bi]?=some b)(hbi:bi<=1048576)(hn:n<1048576)(nm:SliceC StrC 1 lo w am b.marks)(hml:b.marks.length<=1000)(hz:b.zone.size<=1000)(ht:t.size<=maxLen) :
  Calls prog 168 #[.agg (Ai p ci bi y a7 c7 b am cm u1 u2 u3),.string t] w λe w'=>e=.returned (.bool (Dg t b.marks b.zone))/\∃n' D',w'.ownsMap prog 237 Nt m4 n' D'/\MemoOk bs D'/\(n'<=n+1/\∀l,keyOf prog 237 (.agg #[.string t,.int .i64 ((bi:Nat):Int)])=some l->has D' l=true/\(has D l=true->n'=n))/\But m4 w.heap.size w w':=by
 have O4:=iH o4;have HM:=iH hm;have HB:=iH hb;have NM:=iH nm;have hpl:p<w.heap.size:=block_lt_of_cell p7;have hm4:m4<w.heap.size:=o4.lt;have P7:=iH p7;obtain⟨l,hl⟩:=AM t bi ht hbi;have HL:=iH hl;have HT:=iH ht;clear o4 hm hb nm p7 hl ht;go_enter func168,ntmps168;go_upto_region 2 with fail;have hb0:=bl2 w (Ai p ci bi y a7 c7 b am cm u1 u2 u3) 60 #[.string t,.int .i64 ((bi:Nat):Int)] 237;have hS:((w.alloc (Obj.cells (Ai p ci bi y a7 c7 b am cm u1 u2 u3) 60)).alloc (Obj.cells #[.string t,.int .i64 ((bi:Nat):Int)] 237)).heap.size=w.heap.size+1+1:=by simp
 have s0:((w.alloc (Obj.cells (Ai p ci bi y a7 c7 b am cm u1 u2 u3) 60)).alloc (Obj.cells #[.string t,.int .i64 ((bi:Nat):Int)] 237)).cell? ⟨w.heap.size,0,none⟩=some (.pointer (some ⟨p,0,none⟩)):=by simp
 have s15:((w.alloc (Obj.cells (Ai p ci bi y a7 c7 b am cm u1 u2 u3) 60)).alloc (Obj.cells #[.string t,.int .i64 ((bi:Nat):Int)] 237)).rangeAt w.heap.size 15 (bbL b am cm):=Aa (by simp) (Aa (by simp) (Aa (by simp) (Aa (by simp) (Aa (by simp) (Aa (by simp) (Ao _ _ _))))));have k0:((w.alloc (Obj.cells (Ai p ci bi y a7 c7 b am cm u1 u2 u3) 60)).alloc (Obj.cells #[.string t,.int .i64 ((bi:Nat):Int)] 237)).cell? ⟨w.heap.size+1,0,none⟩=some (.string t):=by simp
 have k1:((w.alloc (Obj.cells (Ai p ci bi y a7 c7 b am cm u1 u2 u3) 60)).alloc (Obj.cells #[.string t,.int .i64 ((bi:Nat):Int)] 237)).cell? ⟨w.heap.size+1,1,none⟩=some (.int .i64 ((bi:Nat):Int)):=by simp
 generalize(w.alloc (Obj.cells (Ai p ci bi y a7 c7 b am cm u1 u2 u3) 60)).alloc (Obj.cells #[.string t,.int .i64 ((bi:Nat):Int)] 237)=w1 at *;have HB0:=iH hb0;have HS15:=iH s15;have P7':w1.cell? ⟨p,7,none⟩=some (.map (some m4)):=(hb0.cell (p:=⟨p,7,none⟩) hpl).trans P7;have OA:=iH (Af O4 hb0 hm4);have OX:=iH (Af OA ((Below.refl w1.heap.size w1).alloc nL (Obj.cells #[.bool false] 239)) OA.out.lt);have hba:∀{b' o':Nat} {v':Value},w1.cell? ⟨b',o',none⟩=some v'->(w1.alloc (Obj.cells #[.bool false] 239)).cell? ⟨b',o',none⟩=some v':=λh=>(((Below.refl w1.heap.size w1).alloc nL _).cell (p:=⟨_,_,none⟩) (block_lt_of_cell h)).trans h
 have s0a:=hba s0;have k0a:=hba k0;have k1a:=hba k1;have P7a:=hba P7';obtain⟨BB,yl,hBB⟩:=fU OX.out.drew HL;obtain⟨B0,yl0,hB0⟩:=fU OA.out.drew HL;have hBe:B0=BB:=by
  have:=hB0.symm.trans hBB;injection this with this;injection this
 subst hBe;have HBB:=iH hBB;have HSZ:=iH hS;clear hb0 s15 hBB hS hB0 hba
 cases hh:has D l with
 | true =>
  have HE:Hid (B0=Dg t b.marks b.zone):=by
   have h1:=HM.out.2 t bi b l HB HL hh;rw[HBB.out]at h1;injection h1 with h1;injection h1
  rw[hh]at yl yl0
  go_region
  all_goals
   go_wp2
   go_ret;have hb2:Below w.heap.size w (w1.alloc (Obj.cells #[.bool B0] 239)).drew:=(HB0.out.alloc HB0.out.size _).drew;exact⟨Ab HE,n,D,Af O4 hb2 hm4,HM,⟨Nat.le_succ _,λl' h'=>by rw[HL.out]at h';cases h';exact⟨hh,λ_=>rfl⟩⟩,But.of_below hb2⟩
 | false =>
  rw[hh]at yl yl0
  go_region
  all_goals
   have hb2:Below w1.heap.size w1 (w1.alloc (Obj.cells #[.bool B0] 239)).drew:=((Below.refl _ w1).alloc nL _).drew;have a0:(w1.alloc (Obj.cells #[.bool B0] 239)).drew.cell? ⟨w1.heap.size,0,none⟩=some (.bool B0):=by simp
   have fa:(w1.alloc (Obj.cells #[.bool B0] 239)).drew.frozen? ⟨w1.heap.size,0,none⟩=false:=by simp
   have hsz:w1.heap.size<(w1.alloc (Obj.cells #[.bool B0] 239)).drew.heap.size:=by simp
   generalize(w1.alloc (Obj.cells #[.bool B0] 239)).drew=w2 at *;have HB2:=qTH HB0 hb2;have HR2:Hid (w2.rangeAt w.heap.size 15 (bbL b am cm)):=Ae HS15 hb2 (by have:=HSZ.out;omega);have S0:=iH ((hb2.cell (p:=⟨w.heap.size,0,none⟩) (block_lt_of_cell s0)).trans s0);have K0:=iH ((hb2.cell (p:=⟨w.heap.size+1,0,none⟩) (block_lt_of_cell k0)).trans k0);have K1:=iH ((hb2.cell (p:=⟨w.heap.size+1,1,none⟩) (block_lt_of_cell k1)).trans k1);clear yl yl0 s0a k0a k1a P7a s0 k0 k1 hb2;go_wp2_with(first|(refine qLr Nz HR2 ?_));refine(tW t b.name b.zone b.marks am cm lo b.room b.hold b.closed _ (NM.out.below StrC.holds HB2 nL) hml hz HT).mono ?_;rintro e w3⟨rfl,hb3⟩;generalize hA:Dg t b.marks b.zone=A;have HA:=iH hA;have a3:w3.cell? ⟨w1.heap.size,0,none⟩=some (.bool B0):=(hb3.cell (p:=⟨w1.heap.size,0,none⟩) hsz).trans a0;have f3:w3.frozen? ⟨w1.heap.size,0,none⟩=false:=(hb3.frozen (p:=⟨w1.heap.size,0,none⟩) hsz).trans fa;have hb4:Below w.heap.size w (w3.setCell ⟨w1.heap.size,0,none⟩ (.bool A)):=(qTr HB2 hb3).setCell HB0.out.size _;have hne:∀{b' o':Nat} {v':Value},w2.cell? ⟨b',o',none⟩=some v'->b'≠w1.heap.size->(w3.setCell ⟨w1.heap.size,0,none⟩ (.bool A)).cell? ⟨b',o',none⟩=some v':=λh hn=>(World.cell?_of_block (w:=w3) (a:=⟨_,_,none⟩) (Below.heap_setCell w3 _ _ _ hn)).trans ((hb3.cell (p:=⟨_,_,none⟩) (block_lt_of_cell h)).trans h)
   have s0:=hne S0 (by have:=HSZ.out;omega);have k0:=hne K0 (by have:=HSZ.out;omega);have k1:=hne K1 (by have:=HSZ.out;omega);have a4:(w3.setCell ⟨w1.heap.size,0,none⟩ (.bool A)).cell? ⟨w1.heap.size,0,none⟩=some (.bool A):=World.cell?_setCell_same' _ _ _ (by rw[a3];rfl);have p7:(w3.setCell ⟨w1.heap.size,0,none⟩ (.bool A)).cell? ⟨p,7,none⟩=some (.map (some m4)):=(hb4.cell (p:=⟨p,7,none⟩) hpl).trans P7;obtain⟨w5,yu,ho5,hg5⟩:=(Af O4 hb4 hm4).drew.update eI underlying65 (by unfold maxLen;omega) HL (Ua A);have HO5:=iH ho5;have HG5:=iH hg5;have HB4:=iH hb4;have HA5:=iH ((hg5.cell (a:=⟨w1.heap.size,0,none⟩) (show(w3.setCell ⟨w1.heap.size,0,none⟩ (.bool A)).drew.cell? ⟨w1.heap.size,0,none⟩=some (.bool A) by simpa using a4) (by simp;have:=HSZ.out;omega)));clear ho5 hg5 hb4 hne hb3;go_wp2_with fail
   go_region
   all_goals
    have a5:w5.cell? ⟨w1.heap.size,0,none⟩=some (.bool A):=HA5.out
    go_wp2
    go_ret;subst hA;refine⟨rfl,_,_,HO5,HM.out.put HB HL,⟨Nat.le_refl _,λl' h'=>by rw[HL.out]at h';cases h';exact⟨has_put_same HM.out.1 (eI.key HL) _,λh9=>by rw[hh]at h9;cases h9⟩⟩,?_⟩;have hbt:But m4 w.heap.size w (w3.setCell ⟨w1.heap.size,0,none⟩ (.bool (Dg t b.marks b.zone))).drew:=But.of_below HB4.out.drew;exact hbt.trans ⟨HG5.out.os,HG5.out.tape,HG5.out.output,HG5.out.size,λk hk hne=>HG5.out.block k (lL hk hbt.size) (λe=>hne (Option.some.inj e))⟩
end Go.Proofs.YtpidfnfilnkhkaaGreat
