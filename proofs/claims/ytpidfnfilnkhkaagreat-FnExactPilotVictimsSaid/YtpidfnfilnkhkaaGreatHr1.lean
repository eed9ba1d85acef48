import Derived.Test.YtpidfnfilnkhkaaGreatJ44
set_option maxHeartbeats 8000000
set_option maxRecDepth 100000
namespace Go.Proofs.YtpidfnfilnkhkaaGreat
open Go.RowKit Go.WideMaps Go.Maps Tryz
theorem Gc{P:Program}{op:Oper}{a:Act}{w:World}{K:Act->World->Prop}{Q:Exit->Act->World->Prop}(s x:Operand)(t:TypeId)(ho:op.op=.call {callee:=.builtin .append,args:=#[s,x],argTypes:=#[t,t]})(base:Nat)(e:TypeId)(i:TypeInfo)(z:Value)(size bytes:Nat)(ht:P.underlying t=some (.slice e))(hi:P.info? e=some i)(hz:i.zero=some z)(hsize:i.size=size)(hby:i.bytes=bytes)(hzs:z.cells.size=size)(hsz:0<size)(v:Value)(n:Nat)(xs:List Value)(hs:a.eval s=v)(hown:w.ownsRow base e size v n xs)(ad:Addr)(m c:Nat)(news:List Value)(hx:a.eval x=.slice (some ad) m c)(hl:news.length=m*size)(hnews:∀j u,news[j]?=some u->w.cell? (ad.add j)=some u)(h1:∀u∈news,u.oneCell'=true)(h63:n+m<=maxLen)(hbytes:(n+m)*bytes<=140737488355328)(hbase:base<=w.heap.size)(h:∀v' w',w'.ownsRow base e size v' (n+m) (xs++news)->w.grownBy w' v.ownBlock->(v'=.slice none 0 0↔v=.slice none 0 0/\m=0)->(v'.ownBlock=v.ownBlock\/v'.ownBlock=some w.heap.size)->K (a.put op.dst v') w'):op.wp P a w K Q:=by
 obtain⟨v',w',hr,h2,h3,h4,h5⟩:=run_append_own_at (P:=P) w base t op.type e i z size bytes ht hi hz hsize hby hzs hsz v n xs hown ad m c news hl hnews h1 h63 hbytes hbase;unfold Oper.wp;simp[execOp,ho,resolve,invoke,builtin,hs,hx,hr,Result.andThen];exact h v' w' h2 h3 h4 h5
theorem Wf{p b:Nat}{cs:Array Value}{t:TypeId}{w w':World}(h:Blk p cs t w)(hg:w.grownBy w' (some b))(hne:p≠b):Blk p cs t w' :=
 (hg.block p h.lt (λe=>hne (Option.some.inj e))).trans h
theorem tA{base base':Nat}{e:TypeId}{size:Nat}{v:Value}{n:Nat}{xs:List Value}{w:World}(h:w.ownsRow base e size v n xs)(hb:base'<=base):w.ownsRow base' e size v n xs:=by
 refine⟨h.1,?_⟩;rcases h.2 with h1|⟨g,cap,cur,h1,h2,h3⟩
 .exact .inl h1
 .exact .inr ⟨g,cap,cur,h1,lT hb h2,h3⟩
theorem FltIn.drewH{b:Nat}{x:Flt}{a1:OA}{c1:Nat}{a2:OA}{c2:Nat}{a3:OA}{c3:Nat}{w:World}(h:FltIn b x a1 c1 a2 c2 a3 c3 w):FltIn b x a1 c1 a2 c2 a3 c3 w.drew:=h.below ((Below.refl (b+1) w).drew) (Nat.lt_succ_self _)
theorem bP{base n:Nat}{w:World}{e:TypeId}{s:Nat}{cs:List Value}{v:Value}(h:w.ownsRow base e s v n cs)(hn:v≠.slice none 0 0):∃g cap,v=.slice (some ⟨g,0,none⟩) n cap:=by
 rcases h.2 with⟨h1,_⟩|⟨g,cap,cur,h1,_⟩
 .exact absurd h1 hn
 .exact⟨g,cap,h1⟩
abbrev inH(is:List Int):List Value:=is.map (λi=>Value.int .i64 i)
theorem Qb(is:List Int):∀u∈inH is,u.oneCell'=true:=by
 intro u hu;obtain⟨i,_,rfl⟩:=List.mem_map.1 hu;rfl
theorem Ju{base g q:Nat}{w:World}{is:List Int}(h:w.ownsRow base 3 1 (.slice (some ⟨g,0,none⟩) is.length q) is.length (inH is)){j:Nat}{i:Int}(hj:is[j]?=some i):w.cell? ⟨g,j,none⟩=some (.int .i64 i):=by
 have:=h.cellAt j (by have:=Ac hj;simp;omega);simpa[hj]using this
theorem vF{base g q n:Nat}{w:World}{is:List Value}(h:w.ownsRow base 3 1 (.slice (some ⟨g,0,none⟩) n q) n is):n<=q:=by
 rcases h.2 with⟨h1,_⟩|⟨g',cap,cur,h1,_,_,h4⟩
 .cases h1
 .cases h1
  exact h4.1
theorem jP(x:Flt)(a1:OA)(c1:Nat)(a2:OA)(c2:Nat)(a3:OA)(c3:Nat)(lo:Nat)(gone:List BA)(ga:OA)(gc lo2:Nat)(w:World)(n3:SliceC CpyC 12 lo w a3 x.copies)(hg:SliceC StrC 1 lo2 w ga gone)(hsm:gone.length<=1048576)(l3:x.copies.length<=60)(hk:tI x gone gone.length) :
  Calls prog 44 #[.agg (ffA x a1 c1 a2 c2 a3 c3),.slice ga gone.length gc] w λe w'=>∃g q,e=.returned (.slice (some ⟨g,0,none⟩) gone.length q)/\w'.ownsRow (w.heap.size+1) 3 1 (.slice (some ⟨g,0,none⟩) gone.length q) gone.length (inH (eZ (gone.map (Wy x))))/\Below w.heap.size w w':=by
 obtain⟨i0,hi,hz0,hz1,hz2⟩:=info_parts Fl;have HI0:=iH hi;have N3:=iH n3;have HG:=iH hg;have HK:=iH hk;clear n3 hg hk hi;have hb1:Below w.heap.size w (w.alloc (Obj.cells (ffA x a1 c1 a2 c2 a3 c3) 35)):=by go_grown
 have HF1:Hid (FltIn w.heap.size x a1 c1 a2 c2 a3 c3 (w.alloc (Obj.cells (ffA x a1 c1 a2 c2 a3 c3) 35))):=⟨by simp,by simp,by simp,by simp⟩;have hs1:(w.alloc (Obj.cells (ffA x a1 c1 a2 c2 a3 c3) 35)).heap.size=w.heap.size+1:=by simp
 go_enter func44,ntmps44;go_upto_region 1 with fail;generalize w.alloc (Obj.cells (ffA x a1 c1 a2 c2 a3 c3) 35)=w1 at *;have HS1:=iH hs1;have hb2:Below w1.heap.size w1 (w1.alloc (Obj.cells #[] 3)):=by go_grown
 have HO2:Hid ((w1.alloc (Obj.cells #[] 3)).ownsRow w1.heap.size 3 1 (.slice (some ⟨w1.heap.size,0,none⟩) 0 0) 0 (inH [])):=World.ownsRow_made w1 #[] 0 nL (zL) rfl;clear hs1;go_upto_region 3 with fail;generalize w1.alloc (Obj.cells #[] 3)=w2 at *;obtain⟨H1,hH1⟩:∃H1,H1=w1.heap.size:=⟨_,rfl⟩;have HH1:=iH hH1;rw[<-hH1]at hb2 HO2⊢;clear hH1;go_loopw [5,6] (λv i wr=>∃(k g q:Nat)(L:List Int),k<=gone.length/\i=.int .i64 k/\v=.slice (some ⟨g,0,none⟩) k q/\Hid (L=eZ ((gone.take k).map (Wy x)))/\Hid (L.length=k)/\Hid (wr.ownsRow H1 3 1 (.slice (some ⟨g,0,none⟩) k q) k (inH L))/\Below H1 w1 wr) (λ_ i _=>gone.length-(intOf i).toNat)
 case atStart=>exact⟨0,H1,0,[],zL,rfl,rfl,rfl,rfl,HO2,hb2⟩
 case round =>
  clear HO2 hb2;obtain⟨k,g,q,L,hkk,rfl,rfl,HL,HLL,HO,hB⟩:=hrel;have hBw:Below w.heap.size w wr:=by
   have h9:=HH1.out;have h8:=HS1.out;exact hb1.trans (hB.mono (by omega))
  by_cases hlt:k<gone.length
  case neg =>
   have hke:k=gone.length:=by omega
   subst hke;rw[List.take_length]at HL;have HO9:Hid (wr.ownsRow (w.heap.size+1) 3 1 (.slice (some ⟨g,0,none⟩) gone.length q) gone.length (inH (eZ (gone.map (Wy x))))):=by
    rw[<-HL.out,<-HS1.out,<-HH1.out];exact HO.out
   go_wp2
   go_ret;exact⟨g,q,rfl,HO9,hBw⟩
  obtain⟨s,hs⟩:=gXe hlt;obtain⟨bg,og,rfl,_,hbg,hcs,_⟩:=HG.out.at hs;obtain⟨qc,hqc⟩:∃qc:Nat,Ei x.copies s=qc:=⟨(Ei x.copies s).toNat,by have:=HK.out k s hlt hs;omega⟩;obtain⟨c,hc⟩:∃c,x.copies[qc]?=some c:=by
   have h9:Ei x.copies s<x.copies.length:=vR x.copies s;exact⟨x.copies[qc]'(by omega),gE (by omega)⟩
  have hrk:Wy x s=c.rank:=by unfold Wy;rw[hqc];show(match x.copies[qc]? with|some c=>c.rank|none=>0)=_;rw[hc]
  have HSN:Hid (eZ ((gone.take (k+1)).map (Wy x))=Jp c.rank L):=by
   show _=_
   rw[List.take_add_one,hs,Option.toList_some,List.map_append,List.map_cons,List.map_nil,mX,<-HL.out,hrk]
  have hql:=Ac hc;obtain⟨b3,o3,rfl,_,hb3,hcc⟩:=N3.out.at hc;have hrank0:w.cell? ⟨b3,o3+qc*12+2,none⟩=some (.int .i64 c.rank):=by
   obtain⟨_,_,_,_,h9,_⟩:=hcc;exact h9
  have HST:Hid (∀wy,Below w.heap.size w wy->wy.cell? ⟨bg,og+k,none⟩=some (.string s)):=λwy hy=>(hy.cell (p:=⟨bg,og+k,none⟩) hbg).trans (by simpa using hcs)
  have HRK:Hid (∀wy,Below w.heap.size w wy->wy.cell? ⟨b3,o3+qc*12+2,none⟩=some (.int .i64 c.rank)):=λwy hy=>(hy.cell (p:=⟨b3,o3+qc*12+2,none⟩) hb3).trans hrank0
  have HQC:=iH hqc;clear hc hs hcc hcs hqc hrk hrank0
  try unfold ffA
  generalize c.rank=r at *;go_upto_region 5 with fail;refine wp_region_held_drew (S:=λwy=>FltIn w.heap.size x a1 c1 a2 c2 (some ⟨b3,o3,none⟩) c3 wy/\Below w.heap.size w wy) (by kernel_rfl) ⟨(HF1.out.below hB (by have h9:=HH1.out;have h8:=HS1.out;omega)).drewH,hBw.drew⟩ (λhS=>?_);replace hB:=hB.drew;replace HO:=iH (Ak HO (Below.refl _ wr).drew);clear hBw;generalize wr.drew=wa at *;refine tz 0 16 (.pointer (some ⟨w.heap.size,3,none⟩)) ?_;refine ty 1 ⟨some 17,_,_,_,_,none⟩ (.slice (some ⟨b3,o3,none⟩) x.copies.length c3) ?_ ?_
  .intro wy hy
   have h0:=hy.1.2.2.2;clear hy;go_simp
  refine ty 2 ⟨some 18,_,_,_,_,none⟩ (.agg (ffA x a1 c1 a2 c2 (some ⟨b3,o3,none⟩) c3)) ?_ ?_
  .intro wy hy
   obtain⟨⟨y0,y1,y2,y3⟩,_⟩:=id hy;clear hy;go_simp
  refine tz 3 19 (.slice (some ⟨bg,og,none⟩) gone.length gc) ?_;refine tz 4 20 (.int .i64 k) ?_;refine ty 5 ⟨some 21,_,_,_,_,none⟩ (.pointer (some ⟨bg,og+k,none⟩)) ?_ ?_
  .intro wy hy
   clear hy
   (go_simp;try omega)
  refine ty 6 ⟨some 22,_,_,_,_,none⟩ (.string s) ?_ ?_
  .intro wy hy
   have h0:=HST.out wy hy.2;clear hy;go_simp
  refine rd1 7 ⟨some 23,_,_,_,_,none⟩ rfl (λK hK=>?_);go_simp;refine(Il x a1 c1 a2 c2 (some ⟨b3,o3,none⟩) c3 lo s _ (N3.out.below CpyC.holds hS.2 nL) (by omega)).mono ?_;rintro e wb⟨rfl,hbb⟩;rw[HQC.out];have hB7:=hB.trans (hbb.mono (by have h9:=HH1.out;have h8:=hB.size;omega));have HO7:=iH (Ak HO hbb);clear HO hB;refine hK.out _ _ ⟨hS.1.below hbb (by have h9:=hS.2.size;have h8:=block_lt_of_cell hS.1.1;omega),hS.2.trans (hbb.mono hS.2.size)⟩ (λhS=>?_);clear hK K;refine ty 8 ⟨some 24,_,_,_,_,none⟩ (.pointer (some ⟨b3,o3+qc*12,none⟩)) ?_ ?_
  .intro wy hy
   clear hy
   (go_simp;try omega)
  refine tz 9 25 (.pointer (some ⟨b3,o3+qc*12+2,none⟩)) ?_;refine ty 10 ⟨some 26,_,_,_,_,none⟩ (.int .i64 r) ?_ ?_
  .intro wy hy
   have h0:=HRK.out wy hy.2;clear hy;go_simp
  refine tz 11 7 (.int .i64 r) ?_;have hBw:Below w.heap.size w wb:=hS.2;refine td ?_;clear hS;clear HST HRK HQC;have hqq:k<=q:=vF HO7
  go_wp2
  go_loopw [8] (λi wz=>∃j:Nat,j<=k/\i=.int .i64 j/\Hid (∀a∈L.take j,r<=a)/\wz=wb) (λi _=>k-(intOf i).toNat)
  case atStart=>exact⟨0,zL,rfl,λa ha=>by simp at ha,rfl⟩
  case round =>
   obtain⟨j,hj,rfl,HA,hwe⟩:=hrel;replace hwe:=hwe.symm;subst hwe;by_cases hjk:j<k
   case' pos =>
    obtain⟨a,ha⟩:∃a,L[j]?=some a:=⟨L[j]'(by have:=HLL.out;omega),gE _⟩;have ka:wb.cell? ⟨g,j,none⟩=some (.int .i64 a):=Ju (is:=L) (by rw[HLL.out];exact HO7.out) ha;by_cases hra:r<=a
    .have HA2:Hid (∀b∈L.take (j+1),r<=b):=by
      intro b hb;rw[List.take_add_one,ha]at hb;simp at hb;rcases hb with h|h
      .exact HA.out b h
      .rw[h];exact hra
     clear ha HA
     go_wp2
     go_roundw
     case rel=>exact⟨j+1,by omega,by go_num,HA2,by first|rfl|trivial⟩
     case measure=>simp[intOf];omega
    have hra':a<r:=by omega
    have HID:Hid (Jp r L=L.take j++r::L.drop j):=bC (by have:=HLL.out;omega) HA (λb hb=>by rw[ha]at hb;cases hb;exact hra');clear ha;go_upto_region 9 with fail;clear ka
   case' neg =>
    have HJE:Hid (j=k):=by show _=_;omega
    have HID:Hid (Jp r L=L.take j++r::L.drop j):=bC (by have:=HLL.out;omega) HA (λa ha=>by have h9:=Ac ha;have h8:=HLL.out;have h7:=HJE.out;omega);go_upto_region 9 with fail
   all_goals
    refine wp_region_held_drew (S:=λwy=>Below w.heap.size w wy) (by kernel_rfl) hBw.drew (λhS=>?_);replace HO7:=iH (Ak HO7 (Below.refl _ wb).drew);replace hB7:=hB7.drew;replace hBw:=hBw.drew;generalize wb.drew=wn at *;obtain⟨h0,hh0⟩:∃h0,h0=wn.heap.size:=⟨_,rfl⟩;have hh:h0<=wn.heap.size:=by omega
    have hgo:g<h0:=by have h9:=(HO7.out.lt g rfl).2;omega
    have hH0:H1<=h0:=by have h9:=(HO7.out.lt g rfl).1;omega
    clear hh0;refine tz 1 42 (.slice (some ⟨g,0,none⟩) k q) ?_;refine tz 2 43 (.int .i64 j) ?_;refine ty 3 ⟨some 44,_,_,_,_,none⟩ (.slice (some ⟨g,0,none⟩) j q) ?_ ?_
    .intro wy hy
     clear hy
     (go_simp;try omega)
    refine tz 5 46 (.int .i64 r) ?_;refine tz 8 49 (.slice (some ⟨g,0,none⟩) k q) ?_;refine tz 9 50 (.int .i64 j) ?_;obtain⟨rb,hrb,HRB⟩:∃rb:Addr,(if q=j then some (⟨g,0,none⟩:Addr)else some ⟨g,j,none⟩)=some rb/\Hid (∀wy:World,wy.ownsRow H1 3 1 (.slice (some ⟨g,0,none⟩) k q) k (inH L)->∀t u,(inH (L.drop j))[t]?=some u->wy.cell? (rb.add t)=some u):=by
     split
     .refine⟨_,rfl,λ_ _ t u h=>?_⟩
      have h9:L.drop j=[]:=List.drop_eq_nil_of_le (by have:=HLL.out;omega);rw[h9]at h;simp at h
     .refine⟨_,rfl,λwy hy t u h=>?_⟩
      rw[List.getElem?_map,List.getElem?_drop,Option.map_eq_some_iff]at h;obtain⟨a,ha,rfl⟩:=h;rw[Addr.add_mid];exact Ju (is:=L) (by rw[HLL.out];exact hy) ha
    refine ty 10 ⟨some 51,_,_,_,_,none⟩ (.slice (some rb) (k-j) (q-j)) ?_ ?_
    .intro wy hy
     clear hy
     (rw[<-hrb];go_simp;try omega)
    refine wpAnyH_ready (rs:=[0,6]) (by kernel_rfl) (by simp) (AllReadyH.cons (o:=⟨some 41,_,_,_,_,none⟩) rfl (λKK hKK=>?_) (AllReadyH.cons (o:=⟨some 47,_,_,_,_,none⟩) rfl (λKK hKK=>?_) AllReadyH.nil))
    case' _ =>
     skip;clear hS;go_simp;have hal:=(Below.refl _ wn).alloc nL (Obj.cells #[] 3);have HR:Hid ((wn.alloc (Obj.cells #[] 3)).ownsRow h0 3 1 (.slice (some ⟨wn.heap.size,0,none⟩) 0 0) 0 []):=World.ownsRow_made wn #[] 0 hh (zL) rfl;have hg1:g≠wn.heap.size:=by omega
     replace HO7:=iH (HO7.out.alloc (Obj.cells #[] 3));replace hBw:=qTr hBw hal;replace hB7:=hB7.trans (hal.mono (by have h9:=HH1.out;have h8:=hB7.size;omega));replace hh:=lT hh hal.size;refine hKK.out _ _ hBw (λhS=>?_);clear hKK KK hal;generalize wn.heap.size=g1 at *;generalize wn.alloc (Obj.cells #[] 3)=wn at *;refine wpAnyH_ready (rs:=[4,6]) (by kernel_rfl) (by simp) (AllReadyH.cons (o:=⟨some 45,_,_,_,_,none⟩) rfl (λKK hKK=>?_) (AllReadyH.cons (o:=⟨some 47,_,_,_,_,none⟩) rfl (λKK hKK=>?_) AllReadyH.nil))
     case' _ =>
      skip;clear hS;have HNN:Hid (∀t u,(inH (L.take j))[t]?=some u->wn.cell? ((⟨g,0,none⟩:Addr).add t)=some u):=by
       intro t u hu;rw[List.getElem?_map,Option.map_eq_some_iff]at hu;obtain⟨a,ha,rfl⟩:=hu;rw[Addr.add_mid,Nat.zero_add];exact Ju (is:=L) (by rw[HLL.out];exact HO7.out) (Vb ha)
      have hgj:=(HR.out.lt g1 rfl).1;rw[if_pos (by rfl)];refine Gc (.tmp 41) (.tmp 44) 68 (by rfl) h0 3 i0 _ 1 8 underlying68 HI0 hz0 hz1 hz2 rfl (by decide) _ 0 _ (by rfl) HR ⟨g,0,none⟩ j q (inH (L.take j)) (by rfl) (by have h9:=HLL.out;simp;omega) HNN (Qb _) (by unfold maxLen;omega) (by omega) hh ?_;intro v' wq hown hgrow hnil hblk;have hv:v'≠.slice none 0 0:=(λe=>by have h9:=(hnil.1 e).1;cases h9);rw[Nat.zero_add,List.nil_append]at hown;obtain⟨e1,q1,rfl⟩:=bP hown hv;have hgr:wn.grownBy wq (some g1):=hgrow;have hbe:e1=g1\/e1=wn.heap.size:=by
       rcases hblk with h9|h9
       .exact .inl (Option.some.inj h9)
       .exact .inr (Option.some.inj h9)
      have hge:e1≠g:=by have h9:=(HO7.out.lt g rfl).2;omega
      replace HO7:=iH (HO7.out.kept hgr (Or.inr (λe=>by have h9:g=g1:=Option.some.inj e;omega)));replace HR:=iH hown;replace hBw:=hBw.grown hgr hBw.size (λt e=>by cases e;have h9:=HH1.out;have h8:=HS1.out;omega);replace hB7:=hB7.grown hgr (by have h9:=HH1.out;have h8:=hB7.size;omega) (λt e=>by cases e;omega);replace hh:=lT hh hgr.size;refine hKK.out _ _ hBw (λhS=>?_);clear hKK KK hown hgrow hnil hblk hv hgr hbe hgj HNN;generalize wq=wn at *;refine rd1 6 ⟨some 47,_,_,_,_,none⟩ rfl (λKK hKK=>?_);clear hS;go_simp;have hal:=(Below.refl _ wn).alloc nL (Obj.cells #[.int .i64 r] 3);have HK2:=iH (Blk.alloc wn #[.int .i64 r] 3);have hn3:wn.heap.size≠g:=by omega
      have hn2:wn.heap.size≠e1:=by have h9:=(HR.out.lt e1 rfl).2;omega
      replace HR:=iH (HR.out.alloc (Obj.cells #[.int .i64 r] 3));replace HO7:=iH (HO7.out.alloc (Obj.cells #[.int .i64 r] 3));replace hBw:=qTr hBw hal;replace hB7:=hB7.trans (hal.mono (by have h9:=HH1.out;have h8:=hB7.size;omega));replace hh:=lT hh hal.size;refine hKK.out _ _ hBw (λhS=>?_);clear hKK KK hal;generalize wn.heap.size=g2 at *;generalize wn.alloc (Obj.cells #[.int .i64 r] 3)=wn at *
     rotate_left
     case' _ =>
      skip;clear hS;go_simp;have hal:=(Below.refl _ wn).alloc nL (Obj.cells #[.int .i64 r] 3);have HK2:=iH (Blk.alloc wn #[.int .i64 r] 3);have hn3:wn.heap.size≠g:=by omega
      have hn2:wn.heap.size≠g1:=by have h9:=(HR.out.lt g1 rfl).2;omega
      replace HR:=iH (HR.out.alloc (Obj.cells #[.int .i64 r] 3));replace HO7:=iH (HO7.out.alloc (Obj.cells #[.int .i64 r] 3));replace hBw:=qTr hBw hal;replace hB7:=hB7.trans (hal.mono (by have h9:=HH1.out;have h8:=hB7.size;omega));replace hh:=lT hh hal.size;refine hKK.out _ _ hBw (λhS=>?_);clear hKK KK hal;generalize wn.heap.size=g2 at *;generalize wn.alloc (Obj.cells #[.int .i64 r] 3)=wn at *;refine rd1 4 ⟨some 45,_,_,_,_,none⟩ rfl (λKK hKK=>?_);clear hS;have HNN:Hid (∀t u,(inH (L.take j))[t]?=some u->wn.cell? ((⟨g,0,none⟩:Addr).add t)=some u):=by
       intro t u hu;rw[List.getElem?_map,Option.map_eq_some_iff]at hu;obtain⟨a,ha,rfl⟩:=hu;rw[Addr.add_mid,Nat.zero_add];exact Ju (is:=L) (by rw[HLL.out];exact HO7.out) (Vb ha)
      have hgj:=(HR.out.lt g1 rfl).1;rw[if_pos (by rfl)];refine Gc (.tmp 41) (.tmp 44) 68 (by rfl) h0 3 i0 _ 1 8 underlying68 HI0 hz0 hz1 hz2 rfl (by decide) _ 0 _ (by rfl) HR ⟨g,0,none⟩ j q (inH (L.take j)) (by rfl) (by have h9:=HLL.out;simp;omega) HNN (Qb _) (by unfold maxLen;omega) (by omega) hh ?_;intro v' wq hown hgrow hnil hblk;have hv:v'≠.slice none 0 0:=(λe=>by have h9:=(hnil.1 e).1;cases h9);rw[Nat.zero_add,List.nil_append]at hown;obtain⟨e1,q1,rfl⟩:=bP hown hv;have hgr:wn.grownBy wq (some g1):=hgrow;have hbe:e1=g1\/e1=wn.heap.size:=by
       rcases hblk with h9|h9
       .exact .inl (Option.some.inj h9)
       .exact .inr (Option.some.inj h9)
      have hn4:e1≠g2:=by have h9:=HK2.out.lt;omega
      replace HK2:=iH (Wf HK2 hgr (by omega));have hge:e1≠g:=by have h9:=(HO7.out.lt g rfl).2;omega
      replace HO7:=iH (HO7.out.kept hgr (Or.inr (λe=>by have h9:g=g1:=Option.some.inj e;omega)));replace HR:=iH hown;replace hBw:=hBw.grown hgr hBw.size (λt e=>by cases e;have h9:=HH1.out;have h8:=HS1.out;omega);replace hB7:=hB7.grown hgr (by have h9:=HH1.out;have h8:=hB7.size;omega) (λt e=>by cases e;omega);replace hh:=lT hh hgr.size;refine hKK.out _ _ hBw (λhS=>?_);clear hKK KK hown hgrow hnil hblk hv hgr hbe hgj HNN;generalize wq=wn at *
     rotate_left
    rotate_left 2
    case' _ =>
     skip;clear hS;go_simp;have hal:=(Below.refl _ wn).alloc nL (Obj.cells #[.int .i64 r] 3);have HK2:=iH (Blk.alloc wn #[.int .i64 r] 3);have hn3:wn.heap.size≠g:=by omega
     replace HO7:=iH (HO7.out.alloc (Obj.cells #[.int .i64 r] 3));replace hBw:=qTr hBw hal;replace hB7:=hB7.trans (hal.mono (by have h9:=HH1.out;have h8:=hB7.size;omega));replace hh:=lT hh hal.size;refine hKK.out _ _ hBw (λhS=>?_);clear hKK KK hal;generalize wn.heap.size=g2 at *;generalize wn.alloc (Obj.cells #[.int .i64 r] 3)=wn at *;refine rd1 0 ⟨some 41,_,_,_,_,none⟩ rfl (λKK hKK=>?_);clear hS;go_simp;have hal:=(Below.refl _ wn).alloc nL (Obj.cells #[] 3);have HR:Hid ((wn.alloc (Obj.cells #[] 3)).ownsRow h0 3 1 (.slice (some ⟨wn.heap.size,0,none⟩) 0 0) 0 []):=World.ownsRow_made wn #[] 0 hh (zL) rfl;have hg1:g≠wn.heap.size:=by omega
     have hn2:g2≠wn.heap.size:=by have h9:=HK2.out.lt;omega
     replace HK2:=qBk HK2 hal;replace HO7:=iH (HO7.out.alloc (Obj.cells #[] 3));replace hBw:=qTr hBw hal;replace hB7:=hB7.trans (hal.mono (by have h9:=HH1.out;have h8:=hB7.size;omega));replace hh:=lT hh hal.size;refine hKK.out _ _ hBw (λhS=>?_);clear hKK KK hal;generalize wn.heap.size=g1 at *;generalize wn.alloc (Obj.cells #[] 3)=wn at *;refine rd1 4 ⟨some 45,_,_,_,_,none⟩ rfl (λKK hKK=>?_);clear hS;have HNN:Hid (∀t u,(inH (L.take j))[t]?=some u->wn.cell? ((⟨g,0,none⟩:Addr).add t)=some u):=by
      intro t u hu;rw[List.getElem?_map,Option.map_eq_some_iff]at hu;obtain⟨a,ha,rfl⟩:=hu;rw[Addr.add_mid,Nat.zero_add];exact Ju (is:=L) (by rw[HLL.out];exact HO7.out) (Vb ha)
     have hgj:=(HR.out.lt g1 rfl).1;rw[if_pos (by rfl)];refine Gc (.tmp 41) (.tmp 44) 68 (by rfl) h0 3 i0 _ 1 8 underlying68 HI0 hz0 hz1 hz2 rfl (by decide) _ 0 _ (by rfl) HR ⟨g,0,none⟩ j q (inH (L.take j)) (by rfl) (by have h9:=HLL.out;simp;omega) HNN (Qb _) (by unfold maxLen;omega) (by omega) hh ?_;intro v' wq hown hgrow hnil hblk;have hv:v'≠.slice none 0 0:=(λe=>by have h9:=(hnil.1 e).1;cases h9);rw[Nat.zero_add,List.nil_append]at hown;obtain⟨e1,q1,rfl⟩:=bP hown hv;have hgr:wn.grownBy wq (some g1):=hgrow;have hbe:e1=g1\/e1=wn.heap.size:=by
      rcases hblk with h9|h9
      .exact .inl (Option.some.inj h9)
      .exact .inr (Option.some.inj h9)
     have hn4:e1≠g2:=by have h9:=HK2.out.lt;omega
     replace HK2:=iH (Wf HK2 hgr (by omega));have hge:e1≠g:=by have h9:=(HO7.out.lt g rfl).2;omega
     replace HO7:=iH (HO7.out.kept hgr (Or.inr (λe=>by have h9:g=g1:=Option.some.inj e;omega)));replace HR:=iH hown;replace hBw:=hBw.grown hgr hBw.size (λt e=>by cases e;have h9:=HH1.out;have h8:=HS1.out;omega);replace hB7:=hB7.grown hgr (by have h9:=HH1.out;have h8:=hB7.size;omega) (λt e=>by cases e;omega);replace hh:=lT hh hgr.size;refine hKK.out _ _ hBw (λhS=>?_);clear hKK KK hown hgrow hnil hblk hv hgr hbe hgj HNN;generalize wq=wn at *
    rotate_left
    all_goals
     refine rd1 7 ⟨some 48,_,_,_,_,none⟩ rfl (λKK hKK=>?_);clear hS;have HNN:Hid (∀t u,([.int .i64 r]:List Value)[t]?=some u->wn.cell? ((⟨g2,0,none⟩:Addr).add t)=some u):=λt u hu=>by
      cases t with
      |zero =>
       cases hu
       rw[Addr.add_mid];exact HK2.out.cell rfl
      |succ t=>cases hu
     have hgj:=(HR.out.lt e1 rfl).1;rw[if_pos (by rfl)];refine Gc (.tmp 45) (.tmp 47) 68 (by rfl) h0 3 i0 _ 1 8 underlying68 HI0 hz0 hz1 hz2 rfl (by decide) _ j _ (by rfl) HR ⟨g2,0,none⟩ 1 1 [.int .i64 r] (by rfl) rfl HNN (Qb [r]) (by unfold maxLen;omega) (by omega) hh ?_;intro v' wq hown hgrow hnil hblk;have hv:v'≠.slice none 0 0:=(λe=>by have h9:=(hnil.1 e).1;cases h9);skip;obtain⟨e2,q2,rfl⟩:=bP hown hv;have hgr:wn.grownBy wq (some e1):=hgrow;have hbe:e2=e1\/e2=wn.heap.size:=by
      rcases hblk with h9|h9
      .exact .inl (Option.some.inj h9)
      .exact .inr (Option.some.inj h9)
     have hge:e2≠g:=by have h9:=(HO7.out.lt g rfl).2;omega
     replace HO7:=iH (HO7.out.kept hgr (Or.inr (λe=>by have h9:g=e1:=Option.some.inj e;omega)));replace HR:=iH hown;replace hBw:=hBw.grown hgr hBw.size (λt e=>by cases e;have h9:=HH1.out;have h8:=HS1.out;omega);replace hB7:=hB7.grown hgr (by have h9:=HH1.out;have h8:=hB7.size;omega) (λt e=>by cases e;omega);replace hh:=lT hh hgr.size;refine hKK.out _ _ hBw (λhS=>?_);clear hKK KK hown hgrow hnil hblk hv hgr hbe hgj HNN;generalize wq=wn at *;refine rd1 11 ⟨some 52,_,_,_,_,none⟩ rfl (λKK hKK=>?_);clear hS;have HNN:Hid (∀t u,(inH (L.drop j))[t]?=some u->wn.cell? (rb.add t)=some u):=HRB.out _ HO7;have hgj:=(HR.out.lt e2 rfl).1;rw[if_pos (by rfl)];refine Gc (.tmp 48) (.tmp 51) 68 (by rfl) h0 3 i0 _ 1 8 underlying68 HI0 hz0 hz1 hz2 rfl (by decide) _ (j+1) _ (by rfl) HR rb (k-j) (q-j) (inH (L.drop j)) (by rfl) (by have h9:=HLL.out;simp;omega) HNN (Qb _) (by unfold maxLen;omega) (by omega) hh ?_;intro v' wq hown hgrow hnil hblk;have hv:v'≠.slice none 0 0:=(λe=>by have h9:=(hnil.1 e).1;cases h9);skip;obtain⟨e3,q3,rfl⟩:=bP hown hv;have hgr:wn.grownBy wq (some e2):=hgrow;have hbe:e3=e2\/e3=wn.heap.size:=by
      rcases hblk with h9|h9
      .exact .inl (Option.some.inj h9)
      .exact .inr (Option.some.inj h9)
     have hge:e3≠g:=by have h9:=(HO7.out.lt g rfl).2;omega
     replace HO7:=iH (HO7.out.kept hgr (Or.inr (λe=>by have h9:g=e2:=Option.some.inj e;omega)));replace HR:=iH hown;replace hBw:=hBw.grown hgr hBw.size (λt e=>by cases e;have h9:=HH1.out;have h8:=HS1.out;omega);replace hB7:=hB7.grown hgr (by have h9:=HH1.out;have h8:=hB7.size;omega) (λt e=>by cases e;omega);replace hh:=lT hh hgr.size;refine hKK.out _ _ hBw (λhS=>?_);clear hKK KK hown hgrow hnil hblk hv hgr hbe hgj HNN;generalize wq=wn at *;have hke:j+1+(k-j)=k+1:=by omega
     have HR9:Hid (wn.ownsRow H1 3 1 (.slice (some ⟨e3,0,none⟩) (k+1) q3) (k+1) (inH (Jp r L))):=by
      have h9:=tA HR hH0;rw[hke]at h9;rw[HID.out];have e9:inH (L.take j)++[.int .i64 r]++inH (L.drop j)=inH (L.take j++r::L.drop j):=by simp
      rw[e9]at h9;exact h9
     rw[hke];refine tz 12 5 (.slice (some ⟨e3,0,none⟩) (k+1) q3) ?_;refine td ?_;clear hS;have HLN:Hid ((Jp r L).length=k+1):=by show _=_;rw[sG,HLL.out]
     clear HR HO7 HLL HRB HID HA
     go_wp2
     go_roundw
     case rel=>exact⟨k+1,e3,q3,Jp r L,by omega,by go_num,rfl,HSN.out.symm,HLN,HR9,hB7⟩
     case measure=>simp[intOf];omega
end Go.Proofs.YtpidfnfilnkhkaaGreat
