import Derived.Test.YtpidfnfilnkhkaaGreatJ40
set_option maxHeartbeats 4000000
set_option maxRecDepth 100000
namespace Go.Proofs.YtpidfnfilnkhkaaGreat
open Go.RowKit Go.Shelf Tryz
def eR:Go.Shelf.Ren:=⟨fun|20=>165|n=>n,fun|24=>3|22=>68|3=>3|25=>176|4=>4|0=>0|n=>n,fun|n=>n⟩
theorem AO:Go.Proofs.SlLaysF.n20 prog eR:={
 mixed:=by kernel_rfl
 f20:=⟨Tryz.f165.name,by decide,func165.trans (congrArg some (by kernel_rfl))⟩
 t0:=underlying0
 a0:=Tryz.isAgg0
 z0:=Tryz.sizeOf0
 v0:=Tryz.zeroValue0
 t3:=underlying3
 a3:=Tryz.isAgg3
 z3:=Tryz.sizeOf3
 v3:=Tryz.zeroValue3
 t4:=underlying4
 a4:=Tryz.isAgg4
 z4:=Tryz.sizeOf4
 v4:=Tryz.zeroValue4
 t22:=underlying68
 a22:=Tryz.isAgg68
 z22:=Tryz.sizeOf68
 v22:=Tryz.zeroValue68
 a24:=Tryz.isAgg3
 z24:=Tryz.sizeOf3
 t25:=underlying176
 a25:=Tryz.isAgg176
 z25:=Tryz.sizeOf176
 v25:=Tryz.zeroValue176}
def eJ(X:Flt)(G:Nat)(W:World):Prop:=X.copies.length<=maxLen/\∀i c,X.copies[i]?=some c->W.cell? ⟨G,i*12+2,none⟩=some (.int .i64 c.rank)
theorem xZ{X:Flt}{G lo:Nat}{W:World}(h:SliceC CpyC 12 lo W (some ⟨G,0,none⟩) X.copies):eJ X G W:=⟨h.1,λi c hc=>by
 obtain⟨b1,o1,e1,_,_,hcx⟩:=h.at hc;cases e1
 obtain⟨_,_,_,_,p2,_⟩:=hcx
 simpa using p2⟩
theorem rE(X:Flt)(G q Cb:Nat)(W:World)(hc:W.cell? ⟨Cb,0,none⟩=some (.slice (some ⟨G,0,none⟩) X.copies.length q))(h3:eJ X G W)(a b:Nat)(ha:a<X.copies.length)(hb:b<X.copies.length) :
  Calls prog 112 #[.int .i64 ((a:Nat):Int),.int .i64 ((b:Nat):Int),.pointer (some ⟨Cb,0,none⟩)] W λe w'=>e=.returned (.int .i64 (Lb (rkV X a) (rkV X b)))/\w'=W.drew:=by
 obtain⟨x,hx⟩:=gXe ha;obtain⟨y,hy⟩:=gXe hb;have hxr:rkV X a=x.rank:=by unfold rkV;rw[hx]
 have hyr:rkV X b=y.rank:=by unfold rkV;rw[hy]
 have p2:=h3.2 a x hx;have q2:=h3.2 b y hy;rw[hxr,hyr];have l3:=h3.1;unfold maxLen at l3;clear hxr hyr hx hy h3;generalize x.rank=rx at *;generalize y.rank=ry at *;go_enter func112,ntmps112;go_upto_region 1 with fail;obtain⟨wd,hwd⟩:∃wd,wd=W.drew:=⟨_,rfl⟩;have hcd:wd.cell? ⟨Cb,0,none⟩=some (.slice (some ⟨G,0,none⟩) X.copies.length q):=by rw[hwd];exact hc
 have pd:wd.cell? ⟨G,a*12+2,none⟩=some (.int .i64 rx):=by rw[hwd];exact p2
 have qd:wd.cell? ⟨G,b*12+2,none⟩=some (.int .i64 ry):=by rw[hwd];exact q2
 refine wp_region_held_drew (S:=λwy=>wy=wd) (by kernel_rfl) hwd.symm (λhS=>?_);rw[<-hwd]at hS⊢;have HWD:=iH hwd;clear hwd hc p2 q2;refine ty 0 ⟨some 6,_,_,_,_,none⟩ (.slice (some ⟨G,0,none⟩) X.copies.length q) ?_ ?_
 .intro wy hy
  subst hy;go_simp
 refine ty 1 ⟨some 7,_,_,_,_,none⟩ (.int .i64 ((a:Nat):Int)) ?_ ?_
 .intro wy hy
  subst hy;go_simp
 refine ty 2 ⟨some 8,_,_,_,_,none⟩ (.pointer (some ⟨G,a*12,none⟩)) ?_ ?_
 .intro wy hy
  subst hy;go_simp
 refine ty 3 ⟨some 9,_,_,_,_,none⟩ (.pointer (some ⟨G,a*12+2,none⟩)) ?_ ?_
 .intro wy hy
  subst hy;go_simp
 refine ty 4 ⟨some 10,_,_,_,_,none⟩ (.int .i64 rx) ?_ ?_
 .intro wy hy
  subst hy;go_simp
 refine ty 5 ⟨some 11,_,_,_,_,none⟩ (.slice (some ⟨G,0,none⟩) X.copies.length q) ?_ ?_
 .intro wy hy
  subst hy;go_simp
 refine ty 6 ⟨some 12,_,_,_,_,none⟩ (.int .i64 ((b:Nat):Int)) ?_ ?_
 .intro wy hy
  subst hy;go_simp
 refine ty 7 ⟨some 13,_,_,_,_,none⟩ (.pointer (some ⟨G,b*12,none⟩)) ?_ ?_
 .intro wy hy
  subst hy;go_simp
 refine ty 8 ⟨some 14,_,_,_,_,none⟩ (.pointer (some ⟨G,b*12+2,none⟩)) ?_ ?_
 .intro wy hy
  subst hy;go_simp
 refine ty 9 ⟨some 15,_,_,_,_,none⟩ (.int .i64 ry) ?_ ?_
 .intro wy hy
  subst hy;go_simp
 refine rd1 10 ⟨some 16,_,_,_,_,none⟩ rfl (λKK hKK=>?_);go_simp;refine(Mj rx ry wd).mono ?_;rintro e w1⟨rfl,rfl⟩;refine hKK.out _ _ rfl (λhS=>?_);clear hKK KK;refine ty 11 ⟨some 5,_,_,_,_,none⟩ (.int .i64 (Lb rx ry)) ?_ ?_
 .intro wy hy
  subst hy;go_simp
 refine td ?_;clear hS
 go_wp2
 go_ret;exact⟨rfl,HWD⟩
theorem vI(a b:Int):decide (Lb a b<0)=decide (a<b):=by
 unfold Lb;by_cases h1:a<b
 .simp[h1]
 .by_cases h2:b<a<;>simp[h1,h2]
theorem nV(X:Flt)(G q Cb base g cap:Nat)(pl:List Nat)(w:World)(hn:pl.length<=1000)(hin:∀e∈pl,e<X.copies.length)(hasc:pl.Pairwise (·<·))(hrow:w.ownsRow base 3 1 (.slice (some ⟨g,0,none⟩) pl.length cap) pl.length (inV (plI pl)))(hc:w.cell? ⟨Cb,0,none⟩=some (.slice (some ⟨G,0,none⟩) X.copies.length q))(h3:eJ X G w)(hgC:Cb≠g)(hgG:G≠g)(hne:X.copies.length≠0) :
  Calls prog 165 #[.slice (some ⟨g,0,none⟩) pl.length cap,.int .i64 0,.int .i64 ((pl.length:Nat):Int),.func (.func 112) #[] #[.pointer (some ⟨Cb,0,none⟩)]] w λe w'=>e=.returned (.tuple #[])/\w.grownBy w' (some g)/\∃s:List Nat,s.Perm pl/\s.Pairwise (Rg (rkV X))/\w'.ownsRow base 3 1 (.slice (some ⟨g,0,none⟩) pl.length cap) pl.length (inV (plI s)):=by
 obtain⟨m,hm⟩:∃m,X.copies.length=m+1:=⟨X.copies.length-1,by omega⟩;rcases hrow.2 with⟨h1,_⟩|⟨g',cap',cur,h1,hbase,hb,h4,h5,h6,h7⟩
 .cases h1
 cases h1
 obtain⟨ds,hds⟩:∃ds:List (Fin (m+1)),ds.map (·.1)=pl:=⟨pl.pmap (λe h=>⟨e,h⟩) (λe he=>by have:=hin e he;omega),by rw[List.map_pmap];simp⟩;obtain⟨enc,henc⟩:∃f:Fin (m+1)->Value,f=λp=>.int .i64 ((p.1:Nat):Int):=⟨_,rfl⟩
 obtain⟨r,hr⟩:∃r,r=rkV X:=⟨_,rfl⟩;have hone:OneCell enc:=λi=>by rw[henc];rfl
 have hex:∀p,enc p=.int .i64 ((p.1:Nat):Int):=λp=>by rw[henc]
 have hlen:ds.length=pl.length:=by rw[<-hds,List.length_map]
 have hlt:∀i j,ltOf (λi j:Fin (m+1)=>Lb (r i.1) (r j.1)) i j=decide (r i.1<r j.1):=λi j=>vI _ _
 have hO:Go.Sort.SWO (λi j:Fin (m+1)=>decide (r i.1<r j.1\/(r i.1=r j.1/\i.1<j.1))):=⟨λi=>by simp only[decide_eq_false_iff_not];omega,λi j k q1 q2=>by simp only[decide_eq_true_eq]at q1 q2⊢;omega,λi j k q1 q2=>by simp only[decide_eq_false_iff_not]at q1 q2⊢;omega⟩;have hencm:∀l:List (Fin (m+1)),l.map enc=inV (plI (l.map (·.1))):=λl=>by rw[henc];simp[inV,plI]
 have hH:Sort.Holds enc w g 0 ds.toArray:=λj hj=>by
  have hj':j<ds.length:=by simpa using hj
  refine⟨?_,by simp[World.frozen?,hb]⟩;have q1:(cur.toList.take (pl.length*1))[j]?=(ds.map enc)[j]?:=by rw[h7,hencm,hds]
  rw[List.getElem?_take_of_lt (by omega)]at q1;simp only[World.cell?,hb,Nat.zero_add];simp only[Option.isSome_none,Bool.false_eq_true,if_false];rw[<-Array.getElem?_toList,q1];simp[hj']
 have eg:∀args w,(callFunc 112 args).run prog w=.ok (.enter 112 args) w:=enters_of func112 (by kernel_rfl) rfl;have hcm:CmpReads prog 112 #[.pointer (some ⟨Cb,0,none⟩)] enc (λi j=>Lb (r i.1) (r j.1)) g 0 ds.toArray.size w:=λn os dk _ x y=>by
  have hg:w.grownBy (sortWorld enc w g 0 n dk os) (some g):=Fp _;have r1:=(World.cell?_of_block (w:=w) (a:=⟨Cb,0,none⟩) (hg.block Cb (block_lt_of_cell hc) (λe=>hgC (by cases e;rfl)))).trans hc;have r2:eJ X G (sortWorld enc w g 0 n dk os):=⟨h3.1,λi c hi=>(World.cell?_of_block (w:=w) (a:=⟨G,_,none⟩) (hg.block G (block_lt_of_cell (h3.2 i c hi)) (λe=>hgG (by cases e;rfl)))).trans (h3.2 i c hi)⟩;have hcc:=rE X G q Cb _ r1 r2 x.1 y.1 (by omega) (by omega);rw[<-hr]at hcc;rw[hex x,hex y];refine hcc.mono ?_;rintro e w' ⟨rfl,rfl⟩;exact⟨rfl,1,rfl⟩
 have hS:=Any.insertionSortCmpFunc_one AO enc hone _ 112 #[.pointer (some ⟨Cb,0,none⟩)] g 0 cap 0 ds.length ds.toArray w eg hcm hH (zL) (by simp) (by simp;omega);rw[show ds.toArray.size=pl.length by simp[hlen],hlen]at hS;have hS2:Calls prog 165 #[.slice (some ⟨g,0,none⟩) pl.length cap,.int .i64 0,.int .i64 ((pl.length:Nat):Int),.func (.func 112) #[] #[.pointer (some ⟨Cb,0,none⟩)]] w _:=hS;refine hS2.mono ?_;rintro e w' ⟨rfl,n,rfl⟩;have heq:Sort.insertionSort (ltOf λi j:Fin (m+1)=>Lb (r i.1) (r j.1)) ds.toArray 0 pl.length=Sort.insertionSort (λi j:Fin (m+1)=>decide (r i.1<r j.1\/(r i.1=r j.1/\i.1<j.1))) ds.toArray 0 pl.length:=by
  unfold Sort.insertionSort;refine fQ _ 1 _ rfl (by simp[hlen]) λa _ h2 b h3=>?_
  have h2':a<ds.length:=by simpa using h2
  rw[hlt,getElem!_pos _ a h2,getElem!_pos _ b (by omega)];simp only[List.getElem_toArray];have hab:(ds[b]).1<(ds[a]).1:=by
   have:=List.pairwise_iff_getElem.1 hasc b a (by omega) (by omega) h3;simpa[<-hds]using this
  rw[decide_eq_decide];constructor
  .exact .inl
  .rintro(q|⟨_,q⟩)
   .exact q
   .omega
 rw[heq];obtain⟨hp,hs⟩:=Sort.insertionSort_holds hO ds.toArray 0 pl.length (zL) (by simp[hlen]);generalize Sort.insertionSort (λi j:Fin (m+1)=>decide (r i.1<r j.1\/(r i.1=r j.1/\i.1<j.1))) ds.toArray 0 pl.length=d' at *;have hd:d'.size=pl.length:=hp.1.trans (by simp[hlen]);have hperm:d'.toList.Perm ds:=by
  have:=hp.2.2;rw[show d'.extract 0 pl.length=d' by rw[<-hd];simp,show ds.toArray.extract 0 pl.length=ds.toArray by rw[<-hlen];simp]at this;simpa using this
 rw[<-sortWorld_none];refine⟨rfl,Fp _,d'.toList.map (·.1),?_,?_,?_⟩
 .have:=hperm.map (·.1)
  rwa [hds]at this
 .rw[List.pairwise_map,List.pairwise_iff_getElem]
  intro i j hi hj hij;have hj2:j<d'.size:=by simpa using hj
  have h9:=hs i j (zL) hij (by omega);rw[getElem!_pos _ j hj2,getElem!_pos _ i (by omega)]at h9;have hnd:(d'.toList.map (·.1)).Nodup:=((hperm.map (·.1)).nodup_iff).2 (by rw[hds];exact hasc.imp (λh=>Nat.ne_of_lt h));have hne2:(d'[i]'(by omega)).1≠(d'[j]'hj2).1:=λe=>by
   have:=(List.nodup_iff_pairwise_ne.1 hnd);rw[List.pairwise_map,List.pairwise_iff_getElem]at this;exact this i j hi hj hij (by simpa using e)
  simp only[decide_eq_false_iff_not]at h9;simp only[Array.getElem_toList];rw[<-hr];unfold Rg;omega
 .have h9:=Lr (enc:=enc) (os:=#[]) (n:=n) hd hbase hb h4 h5 h6
  rw[hencm]at h9;exact h9
theorem bW(X:Flt)(G q Cb base g cap:Nat)(pl:List Nat)(w:World)(hn:pl.length<=10)(hin:∀e∈pl,e<X.copies.length)(hasc:pl.Pairwise (·<·))(hrow:w.ownsRow base 3 1 (.slice (some ⟨g,0,none⟩) pl.length cap) pl.length (inV (plI pl)))(hc:w.cell? ⟨Cb,0,none⟩=some (.slice (some ⟨G,0,none⟩) X.copies.length q))(h3:eJ X G w)(hgC:Cb≠g)(hgG:G≠g)(hne:X.copies.length≠0) :
  Calls prog 133 #[.slice (some ⟨g,0,none⟩) pl.length cap,.int .i64 ((pl.length:Nat):Int),.func (.func 112) #[] #[.pointer (some ⟨Cb,0,none⟩)]] w λe w'=>e=.returned (.tuple #[])/\w.grownBy w' (some g)/\∃s:List Nat,s.Perm pl/\s.Pairwise (Rg (rkV X))/\w'.ownsRow base 3 1 (.slice (some ⟨g,0,none⟩) pl.length cap) pl.length (inV (plI s)):=by
 have HI:=iH (nV X G q Cb base g cap pl w (by omega) hin hasc hrow hc h3 hgC hgG hne);clear hin hasc hrow hc h3 hgC hgG hne;go_enter func133,ntmps133
 go_wp2
 go_loopw [7,8] (λs7 s8 wr=>s7=.int .i64 0/\s8=.int .i64 20/\wr=w) (λ_ _ _=>0)
 case atStart=>exact⟨rfl,rfl,rfl⟩
 case round =>
  obtain⟨rfl,rfl,rfl⟩:=hrel;go_wp2_with(go_at_call 165;refine HI.out.mono ?_;rintro e w1⟨rfl,h1,h2⟩;have H1:=iH h1;have H2:=iH h2;clear h1 h2);go_loopw [6,7,8,9] (λs6 _ _ _ wr=>s6=.int .i64 20/\wr=w1) (λ_ _ _ _ _=>0)
  case atStart=>exact⟨rfl,rfl⟩
  case round =>
   obtain⟨rfl,rfl⟩:=hrel;go_wp2_with fail
   go_end0
   exact⟨rfl,H1,H2⟩
theorem jI(X:Flt)(G q Cb base g cap:Nat)(pl:List Nat)(w:World)(hn:pl.length<=10)(hin:∀e∈pl,e<X.copies.length)(hasc:pl.Pairwise (·<·))(hrow:w.ownsRow base 3 1 (.slice (some ⟨g,0,none⟩) pl.length cap) pl.length (inV (plI pl)))(hc:w.cell? ⟨Cb,0,none⟩=some (.slice (some ⟨G,0,none⟩) X.copies.length q))(h3:eJ X G w)(hgC:Cb≠g)(hgG:G≠g)(hne:X.copies.length≠0) :
  Calls prog 111 #[.slice (some ⟨g,0,none⟩) pl.length cap,.func (.func 112) #[] #[.pointer (some ⟨Cb,0,none⟩)]] w λe w'=>e=.returned (.tuple #[])/\w.grownBy w' (some g)/\∃s:List Nat,s.Perm pl/\s.Pairwise (Rg (rkV X))/\w'.ownsRow base 3 1 (.slice (some ⟨g,0,none⟩) pl.length cap) pl.length (inV (plI s)):=by
 have HI:=iH (bW X G q Cb base g cap pl w hn hin hasc hrow hc h3 hgC hgG hne);clear hin hasc hrow hc h3 hgC hgG hne;go_enter func111,ntmps111;go_wp2_with(go_at_call 133;refine HI.out.mono ?_;rintro e w1 ⟨rfl,h1,h2⟩)
 go_end0
 exact⟨rfl,h1,h2⟩
theorem eQ(p:OA)(c:Nat)(fv:Value)(w:World) :
  Calls prog 111 #[.slice p 0 c,fv] w λe w'=>e=.returned (.tuple #[])/\w'=w:=by
 have hi:∀w,Calls prog 165 #[.slice p 0 c,.int .i64 0,.int .i64 0,fv] w λe w'=>e=.returned (.tuple #[])/\w'=w:=λw=>AnyF.insertionSortCmpFunc_none (P:=prog) (ρ:=eR) {AO with} p c fv w
 have hs:Calls prog 133 #[.slice p 0 c,.int .i64 0,fv] w λe w'=>e=.returned (.tuple #[])/\w'=w:=by
  go_enter func133,ntmps133
  go_wp2
  go_loopw [7,8] (λs7 s8 wr=>s7=.int .i64 0/\s8=.int .i64 20/\wr=w) (λ_ _ _=>0)
  case atStart=>exact⟨rfl,rfl,rfl⟩
  case round =>
   obtain⟨rfl,rfl,rfl⟩:=hrel;go_wp2_with(go_at_call 165;refine(hi _).mono ?_;rintro e w1 ⟨rfl,rfl⟩);go_loopw [6,7,8,9] (λs6 _ _ _ wr=>s6=.int .i64 20/\wr=w1) (λ_ _ _ _ _=>0)
   case atStart=>exact⟨rfl,rfl⟩
   case round =>
    obtain⟨rfl,rfl⟩:=hrel;go_wp2_with fail
    go_end0
    exact⟨rfl,rfl⟩
 go_enter func111,ntmps111;go_wp2_with(go_at_call 133;refine hs.mono ?_;rintro e w1 ⟨rfl,rfl⟩)
 go_end0
 exact⟨rfl,rfl⟩
end Go.Proofs.YtpidfnfilnkhkaaGreat
namespace Go.Proofs.YtpidfnfilnkhkaaGreat
open Go.RowKit Tryz
structure GsM (B:Nat) (v:Value) (init:List (List Nat)) (last:List Nat) (vs:List Value) (lv:Value) (W:World):Prop where
 row:W.ownsRow B 68 1 v (init.length+1) (vs++[lv])
 ls:LsN (λb=>v.ownBlock=some b\/lv.ownBlock=some b) B W vs init
 lr:W.ownsRow B 3 1 lv last.length (inV (plI last))
 ne:∀b,lv.ownBlock=some b->v.ownBlock≠some b
theorem GsM.below{B:Nat}{v:Value}{init:List (List Nat)}{last:List Nat}{vs:List Value}{lv:Value}{W W':World}(h:GsM B v init last vs lv W)(hb:Below W.heap.size W W'):GsM B v init last vs lv W' :=
 ⟨Ak h.row hb,h.ls.go hb.size (λb _ h2 _ _=>hb.block b h2) (λ_ _ h=>h),Ak h.lr hb,h.ne⟩
theorem eP{base:Nat}{w:World}{e:TypeId}{size n:Nat}{v:Value}{xs:List Value}(h:w.ownsRow base e size v n xs):∃(p:OA)(c:Nat),v=.slice p n c/\(∀b o,p=some ⟨b,o,none⟩->v.ownBlock=some b):=by
 rcases h.2 with⟨rfl,h0⟩|⟨g,cap,cur,rfl,_⟩
 .exact⟨none,0,by rw[h0],λb o e=>by cases e⟩
 .exact⟨_,cap,rfl,λb o e=>by cases e;rfl⟩
theorem fX{B:Nat}{W:World}{lv:Value}{l:List Nat}(h:W.ownsRow B 3 1 lv l.length (inV (plI l)))(hs:l.length<=1048576):∃(a:OA)(c:Nat),lv=.slice a l.length c/\SliceC IntC 1 B W a (plI l)/\∀b o,a=some ⟨b,o,none⟩->lv.ownBlock=some b:=by
 obtain⟨p,c,e,h2⟩:=eP h;obtain⟨a,c',e',h3⟩:=aU (lo:=B) h rfl hs nL;rw[e]at e';cases e'
 exact⟨p,c,e,h3,h2⟩
theorem GsM.nil{B:Nat}{v:Value}{init:List (List Nat)}{last:List Nat}{vs:List Value}{lv:Value}{W w2:World}{g cap:Nat}(h:GsM B v init last vs lv W)(hs:last.length<=1048576)(hown:w2.ownsRow B 68 1 (.slice (some ⟨g,0,none⟩) (init.length+1+1) cap) (init.length+1+1) ((vs++[lv])++[.slice none 0 0]))(hgr:W.grownBy w2 v.ownBlock)(hto:v.ownBlock=some g\/g=W.heap.size) :
  GsM B (.slice (some ⟨g,0,none⟩) (init.length+1+1) cap) (init++[last]) [] (vs++[lv]) (.slice none 0 0) w2:=by
 obtain⟨a,c,e,h2,h3⟩:=fX h.lr hs;have hN:∀b,b<W.heap.size->¬v.ownBlock=some b->¬((Value.slice (some ⟨g,0,none⟩) (init.length+1+1) cap).ownBlock=some b\/(Value.slice none 0 0).ownBlock=some b):=by
  rintro b hb hn (q|q)
  .have e3:g=b:=Option.some.inj q
   subst e3;rcases hto with q2|q2
   .exact hn q2
   .omega
  .cases q
 have hl0:LsN (λb=>v.ownBlock=some b) B W (vs++[lv]) (init++[last]):=by
  rw[e];exact(h.ls.go nL (λ_ _ _ _ _=>rfl) (λb _ q q2=>q (.inl q2))).snoc h2 (λb o _ q=>h.ne b (h3 b o q))
 refine⟨by simpa using hown,hl0.go hgr.size (λb _ q1 q2 _=>hgr.block b q1 (λq=>q2 q.symm)) hN,World.ownsRow_nil _ _ _ _,λb q=>by cases q⟩
theorem GsM.first{B:Nat}{w2:World}{g cap:Nat}(hown:w2.ownsRow B 68 1 (.slice (some ⟨g,0,none⟩) (0+1) cap) (0+1) ([]++[.slice none 0 0])):GsM B (.slice (some ⟨g,0,none⟩) (0+1) cap) [] [] [] (.slice none 0 0) w2 :=
 ⟨hown,LsN.nil _ _ _,World.ownsRow_nil _ _ _ _,λb q=>by cases q⟩
theorem GsM.grow{B:Nat}{init:List (List Nat)}{last:List Nat}{vs:List Value}{lv:Value}{W w2:World}{gr cr g cap e:Nat}(h:GsM B (.slice (some ⟨gr,0,none⟩) (init.length+1) cr) init last vs lv W)(hown:w2.ownsRow B 3 1 (.slice (some ⟨g,0,none⟩) (last.length+1) cap) (last.length+1) (inV (plI last)++[.int .i64 ((e:Nat):Int)]))(hgr:W.grownBy w2 lv.ownBlock)(hto:lv.ownBlock=some g\/g=W.heap.size) :
  GsM B (.slice (some ⟨gr,0,none⟩) (init.length+1) cr) init (last++[e]) vs (.slice (some ⟨g,0,none⟩) (last.length+1) cap) (w2.setCell ⟨gr,init.length,none⟩ (.slice (some ⟨g,0,none⟩) (last.length+1) cap))/\w2.cell? ⟨gr,init.length,none⟩=some lv/\w2.frozen? ⟨gr,init.length,none⟩=false:=by
 have hvs:vs.length=init.length:=h.ls.1;have hrl:=h.row.lt gr rfl;have hgne:gr≠g:=by
  rcases hto with q|q
  .intro e2
   exact h.ne g q (by rw[e2];rfl)
  .omega
 have hrow:w2.ownsRow B 68 1 (.slice (some ⟨gr,0,none⟩) (init.length+1) cr) (init.length+1) (vs++[lv]):=Md h.row λb q _=>by
  cases q
  exact hgr.block gr hrl.2 (λq=>h.ne gr q.symm rfl)
 have hst:=(hrow.stored init.length (.slice (some ⟨g,0,none⟩) (last.length+1) cap)).1;rw[<-hvs,List.set_append_right _ _ nL,Nat.sub_self,List.set_cons_zero,hvs]at hst;have hN:∀b,b<W.heap.size->¬((Value.slice (some ⟨gr,0,none⟩) (init.length+1) cr).ownBlock=some b\/lv.ownBlock=some b)->¬((Value.slice (some ⟨gr,0,none⟩) (init.length+1) cr).ownBlock=some b\/(Value.slice (some ⟨g,0,none⟩) (last.length+1) cap).ownBlock=some b):=by
  rintro b hb hn (q|q)
  .exact hn (.inl q)
  .have e3:g=b:=Option.some.inj q
   subst e3;rcases hto with q2|q2
   .exact hn (.inr q2)
   .omega
 have hsz:W.heap.size<=(w2.setCell ⟨gr,init.length,none⟩ (.slice (some ⟨g,0,none⟩) (last.length+1) cap)).heap.size:=by simpa[World.setCell]using hgr.size
 refine⟨⟨hst,h.ls.go hsz (λb _ q1 q2 _=>(Below.heap_setCell w2 _ _ b (λq=>q2 (.inl (by have q3:b=gr:=q;rw[q3];rfl)))).trans (hgr.block b q1 (λq=>q2 (.inr q.symm)))) hN,?_,?_⟩,?_,hrow.frozenAt _⟩
 .have h9:inV (plI (last++[e]))=inV (plI last)++[.int .i64 ((e:Nat):Int)]:=by simp[inV,plI]
  rw[h9,List.length_append];refine Md hown λb q _=>Below.heap_setCell w2 _ _ b ?_
  have e3:g=b:=Option.some.inj q;rw[<-e3];exact λq=>hgne q.symm
 .intro b q q2
  have e3:g=b:=Option.some.inj q;have e4:gr=b:=Option.some.inj q2;omega
 .rw[hrow.cellAt init.length (by omega)]
  simp[<-hvs]
open Go.WideMaps Go.Maps Tryz
theorem iA(k:VC)(hp:VPre k)(hm:(Bc k.x k.y k.b).length<=10)(w:World)(hw:Below k.L0 k.W0 w) :
  Calls prog 78 #[.agg (Ai k.p k.ci k.bi k.y k.a7 k.c7 k.b k.am k.cm k.u1 k.u2 k.u3)] w λe w'=>∃(gs:List (List Nat))(ag:OA)(cg:Nat),e=.returned (.slice ag gs.length cg)/\GrpAt k gs ag cg w'/\SliceC LstC 1 w.heap.size w' ag gs/\Below w.heap.size w w':=by
 obtain⟨i0,hi,hz0,hz1,hz2⟩:=info_parts Fl;obtain⟨i1,hj,hy0,hy1,hy2⟩:=info_parts eB;have hLW:=hp.LW;have hws:k.L0<=w.heap.size:=by have:=hw.size;rw[hLW];exact this
 obtain⟨_,l3,_,_,_,_⟩:=Aw hp.hv;have hsb:=hp.ow.copies hp.sz (by unfold maxLen;omega) hp.lB;have hbw:Below k.W0.heap.size k.W0 w:=by rw[<-hLW];exact hw
 have HF:=iH (hp.fm.below hbw);have HSB:=iH (hsb.below CpyC.holds hbw nL);have hGw:k.G<w.heap.size:=lL (by rw[hLW];exact hp.ow.lt) hws;have hpw:k.p<w.heap.size:=HF.out.2.1;have hne:k.x.copies.length≠0:=by have:=Ac hp.hy;omega
 have hb0:Below w.heap.size w ((w.alloc (Obj.cells (Ai k.p k.ci k.bi k.y k.a7 k.c7 k.b k.am k.cm k.u1 k.u2 k.u3) 60)).alloc (Obj.cells #[.slice (some ⟨k.G,0,none⟩) k.x.copies.length k.q] 33)):=((Below.refl _ w).alloc nL _).alloc (by simp) _;have e1:Blk w.heap.size (Ai k.p k.ci k.bi k.y k.a7 k.c7 k.b k.am k.cm k.u1 k.u2 k.u3) 60 ((w.alloc (Obj.cells (Ai k.p k.ci k.bi k.y k.a7 k.c7 k.b k.am k.cm k.u1 k.u2 k.u3) 60)).alloc (Obj.cells #[.slice (some ⟨k.G,0,none⟩) k.x.copies.length k.q] 33)):=(Blk.alloc w _ _).below ((Below.refl _ _).alloc nL _) (Blk.alloc w _ _).lt;have e2:Blk (w.heap.size+1) #[.slice (some ⟨k.G,0,none⟩) k.x.copies.length k.q] 33 ((w.alloc (Obj.cells (Ai k.p k.ci k.bi k.y k.a7 k.c7 k.b k.am k.cm k.u1 k.u2 k.u3) 60)).alloc (Obj.cells #[.slice (some ⟨k.G,0,none⟩) k.x.copies.length k.q] 33)):=by
  have h:=Blk.alloc (w.alloc (Obj.cells (Ai k.p k.ci k.bi k.y k.a7 k.c7 k.b k.am k.cm k.u1 k.u2 k.u3) 60)) #[.slice (some ⟨k.G,0,none⟩) k.x.copies.length k.q] 33;simpa using h
 have HX:=iH e1;have HC:=iH e2;have HB:=iH hb0;clear e1 e2 hb0 hsb hbw hw;have HP:=iH hp;clear hp;have p3:w.cell? ⟨k.p,3,none⟩=some (.slice (some ⟨k.G,0,none⟩) k.x.copies.length k.q):=HF.out.1 3 _ rfl;have q3:(w.alloc (Obj.cells (Ai k.p k.ci k.bi k.y k.a7 k.c7 k.b k.am k.cm k.u1 k.u2 k.u3) 60)).cell? ⟨k.p,3,none⟩=some (.slice (some ⟨k.G,0,none⟩) k.x.copies.length k.q):=(((Below.refl _ w).alloc nL _).cell (p:=⟨k.p,3,none⟩) hpw).trans p3;go_enter func78,ntmps78;go_upto_region 2 with fail;clear p3 q3;generalize(w.alloc (Obj.cells (Ai k.p k.ci k.bi k.y k.a7 k.c7 k.b k.am k.cm k.u1 k.u2 k.u3) 60)).alloc (Obj.cells #[.slice (some ⟨k.G,0,none⟩) k.x.copies.length k.q] 33)=w1 at *;have hs1:w.heap.size+1<w1.heap.size:=HC.out.lt;have r1:w1.cell? ⟨w.heap.size+1,0,none⟩=some (.slice (some ⟨k.G,0,none⟩) k.x.copies.length k.q):=HC.out.cell rfl;go_wp2_with fail;clear r1;go_loopw [4,19] (λv i wr=>∃(n:Nat)(pl:List Nat),n<=k.x.copies.length/\i=.int .i64 n/\Hid (pl=(List.range n).filter (onV k.x k.y k.b))/\Hid (wr.ownsRow w1.heap.size 3 1 v pl.length (inV (plI pl)))/\Hid (Below w1.heap.size w1 wr)) (λ_ i _=>k.x.copies.length-(intOf i).toNat)
 case atStart=>exact⟨0,[],zL,rfl,rfl,World.ownsRow_nil _ _ _ _,Below.refl _ _⟩
 case round =>
  obtain⟨n,pl,hn,rfl,HPL,HO,HB1⟩:=hrel;have HB2:=iH (HB.out.trans (HB1.out.mono HB.out.size));have HX1:=iH (HX.out.below HB1 HX.out.lt);have hpln:pl.length<=n:=by rw[HPL.out];exact lT (List.length_filter_le _ _) (by simp)
  by_cases hlt:n<k.x.copies.length
  .obtain⟨c,hc⟩:=gXe hlt
   obtain⟨b',o',eb,_,_,hcc⟩:=(HSB.out.below CpyC.holds HB2 nL).at hc;cases eb
   obtain⟨a7,c7,q0,q1,q2,q3,q4,q5,q6,q7,q8,q9,q10,q11,_⟩:=hcc;simp only[Nat.add_zero,Nat.zero_add]at q0 q1 q2 q3 q4 q5 q6 q7 q8 q9 q10 q11;have HRA:Hid (wr.rangeAt k.G (n*12) (ccL c a7 c7)):=Aa q0 (Aa q1 (Aa q2 (Aa q3 (Aa q4 (Aa q5 (Aa q6 (Aa q7 (Aa q8 (Aa q9 (Aa q10 (Aa q11 (Ao _ _ _))))))))))));have HON:Hid (onV k.x k.y k.b n=(decide (c.at_=k.b.name)&&decide (c.rank<k.y.rank))):=by show _=_;unfold onV;rw[hc]
   clear hc q0 q1 q2 q3 q4 q5 q6 q7 q8 q9 q10 q11;have HBX:=Blk.alloc wr (ccA c a7 c7) 49;have hbx:=(Below.refl _ wr).alloc nL (Obj.cells (ccA c a7 c7) 49);have c2:(wr.alloc (Obj.cells (ccA c a7 c7) 49)).cell? ⟨wr.heap.size,2,none⟩=some (.int .i64 c.rank):=HBX.cell rfl;have c11:(wr.alloc (Obj.cells (ccA c a7 c7) 49)).cell? ⟨wr.heap.size,11,none⟩=some (.string c.at_):=HBX.cell rfl;have HXX:=HX1.out.below hbx HX1.out.lt;have s4:(wr.alloc (Obj.cells (ccA c a7 c7) 49)).cell? ⟨w.heap.size,15,none⟩=some (.string k.b.name):=HXX.cell rfl;have s2:(wr.alloc (Obj.cells (ccA c a7 c7) 49)).cell? ⟨w.heap.size,4,none⟩=some (.int .i64 k.y.rank):=HXX.cell rfl;have HO4:=iH (Ak HO hbx);have HB4:=qTH HB1 hbx;have hsz4:=HB4.out.size;clear HBX HXX hbx;go_upto_region 6 with(first|(refine qLr Jg HRA ?_));clear HRA HO;generalize wr.alloc (Obj.cells (ccA c a7 c7) 49)=w4 at *;have hrow:∀t:Bool,onV k.x k.y k.b n=t->((List.range (n+1)).filter (onV k.x k.y k.b))=pl++if t then[n]else []:=λt ht=>by rw[List.range_succ,List.filter_append,<-HPL.out,List.filter_cons,List.filter_nil,ht]
   have HROW:=iH hrow;clear hrow;by_cases hat:c.at_=k.b.name
   .have tn:=Br hat
    by_cases hr:c.rank<k.y.rank
    .have HT:=iH (HROW true (by rw[HON.out,decide_eq_true hat,decide_eq_true hr];rfl))
     clear HROW HON;go_wp2_with(first|(at_builtin;refine wpList_append_lies _ rfl (.tmp 38) (.tmp 40) 68 rfl w1.heap.size 3 i0 _ 1 8 underlying68 hi hz0 hz1 hz2 rfl (by decide) _ pl.length _ rfl (Ak HO4 ((Below.refl _ _).alloc nL _)) ⟨w4.heap.size,0,none⟩ 1 1 [.int .i64 ((n:Nat):Int)] rfl rfl (Wx (by simp)) (by intro u hu;rw[List.mem_singleton.1 hu];rfl) (by omega) (by unfold maxLen;omega) (by omega) (by simp;omega) _ rfl ?_;intro gq cap2 w5 hown hgrow hto hgl));go_roundw
     case rel =>
      have hb5:Below w1.heap.size w1 (w4.alloc (Obj.cells #[.int .i64 ((n:Nat):Int)] 3)):=HB4.out.alloc HB4.out.size _;refine⟨n+1,pl++[n],by omega,by go_num,HT.out.symm,?_,hb5.grown hgrow hb5.size (λq hq=>(HO4.out.lt q hq).1)⟩;have h9:inV (plI (pl++[n]))=inV (plI pl)++[.int .i64 ((n:Nat):Int)]:=by simp[inV,plI]
      show World.ownsRow _ _ _ _ _ _ _
      rw[h9,List.length_append];exact hown
     case measure=>simp[intOf];omega
    .have HT:=iH (HROW false (by rw[HON.out,decide_eq_false hr,Bool.and_false]))
     clear HROW HON
     go_wp2
     go_roundw
     case rel=>exact⟨n+1,pl,by omega,by go_num,(HT.out.trans (List.append_nil _)).symm,HO4,HB4⟩
     case measure=>simp[intOf];omega
   .have tn:=Bu hat
    have HT:=iH (HROW false (by rw[HON.out,decide_eq_false hat,Bool.false_and]));clear HROW HON
    go_wp2
    go_roundw
    case rel=>exact⟨n+1,pl,by omega,by go_num,(HT.out.trans (List.append_nil _)).symm,HO4,HB4⟩
    case measure=>simp[intOf];omega
  ·have hne2:n=k.x.copies.length:=by omega
   subst hne2;have hpm:pl=Bc k.x k.y k.b:=HPL.out;have hpl10:pl.length<=10:=by rw[hpm];exact hm
   obtain⟨pp,cp,hv0,hvg⟩:=eP HO;subst hv0;have HPM:=iH hpm;have HBB:=iH hvg;clear hpm HPL hvg;have HOK:Hid (∀(gs:List (List Nat))(v:Value)(W:World),GrpI (rkV k.x) gs (gs.flatten)->gs.flatten.Perm pl->(gs=[]/\v=.slice none 0 0\/∃init last vs lv B,gs=init++[last]/\w1.heap.size<=B/\GsM B v init last vs lv W)->Below w1.heap.size w1 W->∃(gs:List (List Nat))(ag:OA)(cg:Nat),Ending.returned v=.returned (.slice ag gs.length cg)/\GrpAt k gs ag cg W/\SliceC LstC 1 w.heap.size W ag gs/\Below w.heap.size w W):=by
    intro gs v W hgi hperm hmem hbl;have hbt:=qTr HB hbl;have hin:∀e,e∈Bc k.x k.y k.b↔∃g∈gs,e∈g:=λe=>by rw[<-HPM.out,<-hperm.mem_iff,List.mem_flatten]
    rcases hmem with⟨rfl,rfl⟩|⟨init,last,vs,lv,B,rfl,hB,hg⟩
    .exact⟨[],none,0,rfl,⟨SliceC.nil,λq=>absurd rfl q,⟨Nat.le_refl _,zL⟩,hgi.g,hin⟩,SliceC.nil,hbt⟩
    .have hfl:(init++[last]).flatten.length<=10:=by rw[hperm.length_eq];exact hpl10
     have hll:last.length<=10:=by rw[List.flatten_append,List.length_append]at hfl;simp at hfl;omega
     have hil:=(Zm hgi.g).2;rw[List.length_append,List.length_singleton]at hil;obtain⟨a2,c2,e2,h2,_⟩:=fX hg.lr (by omega);have hlv:LsV B W (vs++[lv]) (init++[last]):=by rw[e2];exact hg.ls.v.snoc h2
     obtain⟨a,c,e9,h9⟩:=Xu (ls:=init++[last]) (by rw[List.length_append];exact hg.row) hlv (by rw[List.length_append,List.length_singleton];unfold maxLen;omega);have e7:v=.slice a (init.length+1) c:=by rw[e9,List.length_append];rfl
     obtain⟨g9,cap9,e8,_,_⟩:=hg.row.form (by omega);have hcap:(init++[last]).length<=c/\c<=maxLen:=by
      rcases hg.row.2 with⟨_,q⟩|⟨_,cap,_,q1,_,_,q2,q3,_⟩
      .omega
      .rw[e7]at q1
       cases q1
       rw[List.length_append];exact⟨q2,q3⟩
     have h10:=h9.keep LstC.holds (Keeps.refl _ _) (by omega:w.heap.size<=B);exact⟨_,a,c,by rw[e9],⟨h10.keep LstC.holds (Keeps.refl _ _) hws,λ_=>⟨g9,by rw[e7]at e8;cases e8;rfl⟩,hcap,hgi.g,hin⟩,h10,hbt⟩
   by_cases hpe:pl=[]
   .subst hpe
    clear HX1 HB2;go_wp2_with(go_at_call 111;refine(eQ pp cp _ wr).mono ?_;rintro e w2 ⟨rfl,rfl⟩);go_loopw [7,48] (λv i wq=>v=.slice none 0 0/\i=.int .i64 0/\wq=w2) (λ_ _ _=>0)
    case atStart=>exact⟨rfl,rfl,rfl⟩
    case round =>
     obtain⟨rfl,rfl,rfl⟩:=hrel;go_wp2_with fail;refine bodyPost_ret (Kz rfl _ _ _ rfl) rfl ?_;exact HOK.out [] _ _ ⟨⟨λg q=>(by cases q),λg q=>(by cases q),λg q=>(by cases q),List.Pairwise.nil⟩,rfl⟩ (List.Perm.refl _) (.inl ⟨rfl,rfl⟩) HB1
   .obtain⟨g,hg⟩:∃g,pp=some ⟨g,0,none⟩:=by
     rcases HO.out.2 with⟨_,q⟩|⟨g,_,_,q,_⟩
     .exact absurd (List.length_eq_zero_iff.1 q) hpe
     .cases q;exact⟨g,rfl⟩
    subst hg;have hgl:=HO.out.lt g rfl;have HC2:Hid (Blk (w.heap.size+1) #[.slice (some ⟨k.G,0,none⟩) k.x.copies.length k.q] 33 wr):=HC.out.below HB1 hs1;have HRK:Hid (eJ k.x k.G wr):=xZ (HSB.out.below CpyC.holds HB2 nL);have HSS:=iH (jI k.x k.G k.q (w.heap.size+1) w1.heap.size g cp pl wr hpl10 (λe he=>by rw[HPM.out]at he;obtain⟨c,hc,_⟩:=Gf he;exact Ac hc) (by rw[HPM.out];exact Jj _ _ _) HO (HC2.out.cell rfl) HRK (by omega) (by omega) hne);go_wp2_with(go_at_call 111;refine HSS.out.mono ?_;rintro e w2⟨rfl,hg2,s,hsp,hss,hso⟩;have HG2:=iH hg2;have HSP:=iH hsp;have HSO:=iH hso;have HST:=iH hss;clear hg2 hsp hso hss);have hsl:s.length=pl.length:=HSP.out.length_eq;have HW2:Hid (Below w1.heap.size w1 w2):=HB1.out.trans ⟨HG2.out.os,HG2.out.tape,HG2.out.output,HG2.out.size,λb q=>HG2.out.block b (by have:=HB1.out.size;omega) (λe=>by cases e;omega)⟩;clear HSS HX1 HB2 HO HB1 HC2 HRK;have hg2l:=(HSO.out.lt g rfl).2;go_loopw [7,48] (λv i wq=>∃(n:Nat)(gs:List (List Nat)),n<=pl.length/\i=.int .i64 n/\Hid (GrpI (rkV k.x) gs (s.take n))/\Hid (gs=[]/\v=.slice none 0 0\/∃init last vs lv,gs=init++[last]/\GsM w2.heap.size v init last vs lv wq)/\Hid (Below w2.heap.size w2 wq)) (λ_ i _=>pl.length-(intOf i).toNat)
    case atStart=>exact⟨0,[],zL,rfl,⟨⟨λg q=>(by cases q),λg q=>(by cases q),λg q=>(by cases q),List.Pairwise.nil⟩,rfl⟩,.inl ⟨rfl,rfl⟩,Below.refl _ _⟩
    case round =>
    obtain⟨n,gs,hn,rfl,HGI,HGM,HBQ⟩:=hrel;by_cases hlt:n<pl.length
    .obtain⟨e,he⟩:∃e,s[n]?=some e:=⟨s[n]'(by omega),gE _⟩
     have hgw:=HBQ.out.size;have he0:wr.cell? ⟨g,n,none⟩=some (.int .i64 ((e:Nat):Int)):=((HBQ.out.cell (p:=⟨g,n,none⟩) hg2l).trans (HSO.out.cellAt n (by omega))).trans (by simp[inV,plI,he]);have hel:e<k.x.copies.length:=by have h9:=HSP.out.subset (List.mem_of_getElem? he);rw[HPM.out]at h9;obtain⟨c,hc,_⟩:=Gf h9;exact Ac hc
     have HRK:Hid (eJ k.x k.G wr):=xZ (HSB.out.below CpyC.holds (HB.out.trans ((HW2.out.trans (HBQ.out.mono HW2.out.size)).mono HB.out.size)) nL);have HCB:Hid (wr.cell? ⟨w.heap.size+1,0,none⟩=some (.slice (some ⟨k.G,0,none⟩) k.x.copies.length k.q)):=((HW2.out.trans (HBQ.out.mono HW2.out.size)).cell (p:=⟨w.heap.size+1,0,none⟩) hs1).trans (HC.out.cell rfl);have HSE:Hid (s.take (n+1)=s.take n++[e]):=by show _=_;rw[List.take_add_one,he];rfl
     have HLT:Hid (∀b∈s.take n,Rg (rkV k.x) b e):=λb hb=>by
      obtain⟨j,hj,rfl⟩:=List.mem_iff_getElem.1 hb;rw[List.length_take]at hj;rw[List.getElem_take];have h9:=List.pairwise_iff_getElem.1 HST j n (by omega) (by omega) (by omega);rw[gE (by omega),Option.some.injEq]at he;rw[<-he];exact h9
     have HGI2:Hid (GrpI (rkV k.x) (dV (rkV k.x) gs e) (s.take (n+1))):=by show GrpI _ _ _;rw[HSE.out];exact HGI.out.step HLT
     by_cases hn0:n=0
     .subst hn0
      have hgs:gs=[]:=by
       cases gs with
       |nil=>rfl
       |cons x xs=>exact absurd (HGI.out.f) (by have:=HGI.out.g.ne x List.mem_cons_self;simp[this])
      subst hgs;rcases HGM.out with⟨_,rfl⟩|⟨init,last,vs,lv,q,_⟩
      rotate_left
      .exact absurd q (by simp)
      clear HRK HCB HLT;go_upto_region 14 with fail;clear he0
      go_quiet (fail)
      have hdr:Below wr.heap.size wr (wr.drewN nq):=⟨rfl,rfl,rfl,Nat.le_refl _,λ_ _=>rfl⟩;replace HBQ:=qTH HBQ hdr;clear hdr;generalize wr.drewN nq=wd at *;have hgd:=HBQ.out.size;have hbn:=(Below.refl _ wd).alloc nL (Obj.cells #[.slice none 0 0] 68);go_upto_region 16 with(first|(at_builtin;refine wpList_append_lies _ rfl (.tmp 72) (.tmp 73) 109 rfl w2.heap.size 68 i1 _ 1 24 underlying109 hj hy0 hy1 hy2 rfl (by decide) (.slice none 0 0) (0) [] rfl (Ak (World.ownsRow_nil _ _ _ _) hbn) ⟨wd.heap.size,0,none⟩ 1 1 [.slice none 0 0] rfl rfl (Wx (by simp)) (by intro u hu;rw[List.mem_singleton.1 hu];rfl) (by omega) (by unfold maxLen;omega) (by omega) (by simp;omega) _ rfl ?_;intro gr cr w5 hown hgrow hto hgl));have HB5:Hid (Below w2.heap.size w2 w5):=(qTr HBQ hbn).grown hgrow (lT HBQ.out.size hbn.size) (λq hq=>(by cases hq));replace HBQ:=HB5;clear HB5 hbn;have HG5:Hid (GsM w2.heap.size (.slice (some ⟨gr,0,none⟩) (0+1) cr) [] [] [] (.slice none 0 0) w5):=GsM.first hown
      clear hown hgrow hto hgl;have HLA:Hid (([]:List Nat).length<=100):=zL;have hgs2:Hid (dV (rkV k.x) [] e=[]++[[]++[e]]):=rfl;have hr17:w5.cell? ⟨gr,0,none⟩=some (.slice none 0 0):=by
       have h0:=HG5.out.row;have h9:w5.cell? ⟨gr,0,none⟩=([]++[(.slice none 0 0)])[0]?:=h0.cellAt (0) (by simp);rw[h9];have h8:=HG5.out.ls.1;have h7:([]:List (List Nat)).length=0:=rfl;rw[h7]at h8;rfl
      have hba:=(Below.refl _ w5).alloc nL (Obj.cells #[.int .i64 ((e:Nat):Int)] 3);replace HG5:=iH (HG5.out.below hba);have hgz:w2.heap.size<=w5.heap.size:=HBQ.out.size;have hla:([]:List Nat).length<=100:=HLA.out;have hgrl:=HG5.out.row.lt gr rfl;go_wp2_with(first|(at_builtin;refine wpList_append_lies _ rfl (.tmp 83) (.tmp 85) 68 rfl w2.heap.size 3 i0 _ 1 8 underlying68 hi hz0 hz1 hz2 rfl (by decide) _ ([]:List Nat).length (inV (plI [])) rfl HG5.out.lr ⟨w5.heap.size,0,none⟩ 1 1 [.int .i64 ((e:Nat):Int)] rfl rfl (Wx (by simp)) (by intro u hu;rw[List.mem_singleton.1 hu];rfl) (by omega) (by unfold maxLen;omega) (by omega) (by simp;omega) _ rfl ?_;intro g2 cap2 w6 hown2 hgrow2 hto2 hgl2;have hgr9:=GsM.grow (show GsM w2.heap.size (.slice (some ⟨gr,0,none⟩) (([]:List (List Nat)).length+1) cr) [] [] [] (.slice none 0 0) _ from HG5.out) hown2 hgrow2 hto2;obtain⟨hgm,hcell,hfr⟩:=hgr9;have hcell0:w6.cell? ⟨gr,0,none⟩=some (.slice none 0 0):=hcell;have hfr0:w6.frozen? ⟨gr,0,none⟩=false:=hfr;clear hcell hfr));go_roundw
      case rel =>
       have hb6:Below w2.heap.size w2 w6:=(qTr HBQ hba).grown hgrow2 (lT HBQ.out.size hba.size) (λq hq=>(HG5.out.lr.lt q hq).1);exact⟨_,_,by omega,by go_num,HGI2,.inr ⟨_,_,_,_,hgs2.out,hgm⟩,hb6.setCell (p:=⟨gr,0,none⟩) hgrl.1 _⟩
      case measure=>simp[intOf];omega
     .rcases HGM.out with⟨hq,_⟩|⟨init,last,vs,lv,hgs,hg⟩
      .exact absurd (congrArg List.length HGI.out.f) (by rw[hq,List.length_take];simp;omega)
      subst hgs;obtain⟨gr0,cr0,hv7,_,_⟩:=hg.row.form (by omega);subst hv7;obtain⟨m,hmm⟩:∃m,init.length=m:=⟨_,rfl⟩;rw[hmm]at hg⊢;have HG:=iH hg;obtain⟨j,rfl⟩:∃j,n=j+1:=⟨n-1,by omega⟩;obtain⟨ep,hep⟩:∃e,s[j]?=some e:=⟨s[j]'(by omega),gE _⟩;have hln:=HGI.out.g.ne last (by simp);have hfl:last.length<=10/\m<=10:=by
       have h1:=congrArg List.length HGI.out.f;have h2:=(Zm HGI.out.g).2;rw[List.length_take]at h1;rw[List.length_append,List.length_singleton]at h2;rw[List.flatten_append,List.length_append]at h1 h2;simp at h1 h2;omega
      have hlast:last.getLast?.getD 0=ep:=by
       have h1:=congrArg List.getLast? HGI.out.f;have h3:(s.take (j+1)).getLast?=some ep:=by rw[List.getLast?_eq_getElem?,List.length_take,Nat.min_eq_left (by omega),Nat.add_sub_cancel,List.getElem?_take,if_pos (by omega),hep]
       rw[List.flatten_append,List.getLast?_append,show[last].flatten=last by simp,List.getLast?_eq_some_getLast hln,h3]at h1;rw[List.getLast?_eq_some_getLast hln];simpa using h1
      have hgS:dV (rkV k.x) (init++[last]) e=if (rkV k.x) ep=(rkV k.x) e then init++[last++[e]]else (init++[last])++[[e]]:=by
       unfold dV;rw[show(init++[last]).getLast?=some last by simp];simp only[hlast,List.dropLast_concat]
      have HGS:=iH hgS;have hepl:ep<k.x.copies.length:=by have h9:=HSP.out.subset (List.mem_of_getElem? hep);rw[HPM.out]at h9;obtain⟨c,hc,_⟩:=Gf h9;exact Ac hc
      have cA:=HCB.out;have cB:wr.cell? ⟨g,j,none⟩=some (.int .i64 ((ep:Nat):Int)):=((HBQ.out.cell (p:=⟨g,j,none⟩) hg2l).trans (HSO.out.cellAt j (by omega))).trans (by simp[inV,plI,hep]);have cC:wr.cell? ⟨k.G,ep*12+2,none⟩=some (.int .i64 (rkV k.x ep)):=by
       rw[HRK.out.2 ep _ (gE hepl)];unfold rkV;rw[gE hepl]
      have cD:wr.cell? ⟨k.G,e*12+2,none⟩=some (.int .i64 (rkV k.x e)):=by
       rw[HRK.out.2 e _ (gE hel)];unfold rkV;rw[gE hel]
      have HLA:Hid (last.length<=100):=by show _<=_;omega
      clear hg hgS hlast hep hln HRK HCB HLT HGM HGI;obtain⟨rx,hrx⟩:∃x,x=rkV k.x ep:=⟨_,rfl⟩;obtain⟨ry,hry⟩:∃x,x=rkV k.x e:=⟨_,rfl⟩;rw[<-hrx]at cC HGS;rw[<-hry]at cD HGS;clear hrx hry;have hjl:(j:Int)<(pl.length:Int):=by omega
      have hj0:(j:Int)+1-1=(j:Int):=by omega
      have hj3:IntKind.i64.wrap (j:Int)=(j:Int):=by simp[IntKind.wrap,IntKind.bits,IntKind.signed];omega
      have hepi:(ep:Int)<(k.x.copies.length:Int):=by omega
      have heli:(e:Int)<(k.x.copies.length:Int):=by omega
      have hj5:¬((j:Int)+1=0):=by omega
      by_cases hrr:rx=ry
      .have hgs2:Hid (dV (rkV k.x) (init++[last]) e=init++[last++[e]]):=HGS.out.trans (if_pos hrr)
       subst hrr;clear HGS;go_upto_region 14 with fail
       go_quiet (fail)
       clear cA cB cC cD he0;have hdr:Below wr.heap.size wr (wr.drewN nq):=⟨rfl,rfl,rfl,Nat.le_refl _,λ_ _=>rfl⟩;replace HBQ:=qTH HBQ hdr;replace HG:=iH (HG.out.below hdr);clear hdr;generalize wr.drewN nq=wd at *;have hgd:=HBQ.out.size;go_upto_region 16 with fail;have HG5:=HG;clear HG;obtain⟨gr,hgrr⟩:∃q,q=gr0:=⟨_,rfl⟩;subst hgrr;obtain⟨cr,hcrr⟩:∃q,q=cr0:=⟨_,rfl⟩;subst hcrr;have hr17:wd.cell? ⟨gr,m,none⟩=some lv:=by
        have h0:=HG5.out.row;rw[hmm]at h0;have h9:wd.cell? ⟨gr,m,none⟩=(vs++[lv])[m]?:=h0.cellAt (m) (by omega);rw[h9];have h8:=HG5.out.ls.1;have h7:(init:List (List Nat)).length=m:=hmm;rw[h7]at h8;rw[<-h8];simp
       have hba:=(Below.refl _ wd).alloc nL (Obj.cells #[.int .i64 ((e:Nat):Int)] 3);replace HG5:=iH (HG5.out.below hba);have hgz:w2.heap.size<=wd.heap.size:=HBQ.out.size;have hla:(last:List Nat).length<=100:=HLA.out;have hgrl:=HG5.out.row.lt gr rfl;go_wp2_with(first|(at_builtin;refine wpList_append_lies _ rfl (.tmp 83) (.tmp 85) 68 rfl w2.heap.size 3 i0 _ 1 8 underlying68 hi hz0 hz1 hz2 rfl (by decide) _ (last:List Nat).length (inV (plI last)) rfl HG5.out.lr ⟨wd.heap.size,0,none⟩ 1 1 [.int .i64 ((e:Nat):Int)] rfl rfl (Wx (by simp)) (by intro u hu;rw[List.mem_singleton.1 hu];rfl) (by omega) (by unfold maxLen;omega) (by omega) (by simp;omega) _ rfl ?_;intro g2 cap2 w6 hown2 hgrow2 hto2 hgl2;have hgr9:=GsM.grow (show GsM w2.heap.size (.slice (some ⟨gr,0,none⟩) ((init:List (List Nat)).length+1) cr) init last vs lv _ from(by rw[hmm];exact HG5.out)) hown2 hgrow2 hto2;obtain⟨hgm,hcell,hfr⟩:=hgr9;rw[hmm]at hgm hcell hfr));go_roundw
       case rel =>
        have hb6:Below w2.heap.size w2 w6:=(qTr HBQ hba).grown hgrow2 (lT HBQ.out.size hba.size) (λq hq=>(HG5.out.lr.lt q hq).1);exact⟨_,_,by omega,by go_num,HGI2,.inr ⟨_,_,_,_,hgs2.out,hgm⟩,hb6.setCell (p:=⟨gr,m,none⟩) hgrl.1 _⟩
       case measure=>simp[intOf];omega
      .have hgs2:Hid (dV (rkV k.x) (init++[last]) e=(init++[last])++[[]++[e]]):=HGS.out.trans (if_neg hrr)
       have hrb:(rx==ry)=false:=by simp[hrr]
       have hrb2:(rx !=ry)=true:=by simp[hrr]
       clear HGS;go_upto_region 14 with fail
       go_quiet (fail)
       clear cA cB cC cD he0;have hdr:Below wr.heap.size wr (wr.drewN nq):=⟨rfl,rfl,rfl,Nat.le_refl _,λ_ _=>rfl⟩;replace HBQ:=qTH HBQ hdr;replace HG:=iH (HG.out.below hdr);clear hdr;generalize wr.drewN nq=wd at *;have hgd:=HBQ.out.size;have hbn:=(Below.refl _ wd).alloc nL (Obj.cells #[.slice none 0 0] 68);go_upto_region 16 with(first|(at_builtin;refine wpList_append_lies _ rfl (.tmp 72) (.tmp 73) 109 rfl w2.heap.size 68 i1 _ 1 24 underlying109 hj hy0 hy1 hy2 rfl (by decide) (.slice (some ⟨gr0,0,none⟩) (m+1) cr0) (m+1) (vs++[lv]) rfl (Ak (show World.ownsRow _ _ _ _ _ (m+1) _ from(by rw[<-hmm];rw[<-hmm]at HG;exact HG.out.row)) hbn) ⟨wd.heap.size,0,none⟩ 1 1 [.slice none 0 0] rfl rfl (Wx (by simp)) (by intro u hu;rw[List.mem_singleton.1 hu];rfl) (by omega) (by unfold maxLen;omega) (by omega) (by simp;omega) _ rfl ?_;intro gr cr w5 hown hgrow hto hgl));have HB5:Hid (Below w2.heap.size w2 w5):=(qTr HBQ hbn).grown hgrow (lT HBQ.out.size hbn.size) (λq hq=>((show World.ownsRow _ _ _ _ _ (m+1) _ from(by rw[<-hmm];rw[<-hmm]at HG;exact HG.out.row)).lt q hq).1);replace HBQ:=HB5;clear HB5 hbn;have hmm2:(init++[last]).length=m+1:=by rw[List.length_append,hmm];rfl
       have HG5:Hid (GsM w2.heap.size (.slice (some ⟨gr,0,none⟩) (m+1+1) cr) (init++[last]) [] (vs++[lv]) (.slice none 0 0) w5):=by
        rw[<-hmm]at HG hown⊢;exact(HG.out.below ((Below.refl _ _).alloc nL _)).nil (by have:=HLA.out;omega) hown hgrow hto
       clear HG hown hgrow hto hgl;replace HLA:Hid (([]:List Nat).length<=100):=zL;have hr17:w5.cell? ⟨gr,(m+1),none⟩=some (.slice none 0 0):=by
        have h0:=HG5.out.row;rw[hmm2]at h0;have h9:w5.cell? ⟨gr,(m+1),none⟩=((vs++[lv])++[(.slice none 0 0)])[(m+1)]?:=h0.cellAt ((m+1)) (by omega);rw[h9];have h8:=HG5.out.ls.1;have h7:((init++[last]):List (List Nat)).length=(m+1):=hmm2;rw[h7]at h8;rw[<-h8];simp
       have hba:=(Below.refl _ w5).alloc nL (Obj.cells #[.int .i64 ((e:Nat):Int)] 3);replace HG5:=iH (HG5.out.below hba);have hgz:w2.heap.size<=w5.heap.size:=HBQ.out.size;have hla:([]:List Nat).length<=100:=HLA.out;have hgrl:=HG5.out.row.lt gr rfl;go_wp2_with(first|(at_builtin;refine wpList_append_lies _ rfl (.tmp 83) (.tmp 85) 68 rfl w2.heap.size 3 i0 _ 1 8 underlying68 hi hz0 hz1 hz2 rfl (by decide) _ ([]:List Nat).length (inV (plI [])) rfl HG5.out.lr ⟨w5.heap.size,0,none⟩ 1 1 [.int .i64 ((e:Nat):Int)] rfl rfl (Wx (by simp)) (by intro u hu;rw[List.mem_singleton.1 hu];rfl) (by omega) (by unfold maxLen;omega) (by omega) (by simp;omega) _ rfl ?_;intro g2 cap2 w6 hown2 hgrow2 hto2 hgl2;have hgr9:=GsM.grow (show GsM w2.heap.size (.slice (some ⟨gr,0,none⟩) (((init++[last]):List (List Nat)).length+1) cr) (init++[last]) [] (vs++[lv]) (.slice none 0 0) _ from(by rw[hmm2];exact HG5.out)) hown2 hgrow2 hto2;obtain⟨hgm,hcell,hfr⟩:=hgr9;rw[hmm2]at hgm hcell hfr));go_roundw
       case rel =>
        have hb6:Below w2.heap.size w2 w6:=(qTr HBQ hba).grown hgrow2 (lT HBQ.out.size hba.size) (λq hq=>(HG5.out.lr.lt q hq).1);exact⟨_,_,by omega,by go_num,HGI2,.inr ⟨_,_,_,_,hgs2.out,hgm⟩,hb6.setCell (p:=⟨gr,(m+1),none⟩) hgrl.1 _⟩
       case measure=>simp[intOf];omega
    .have hne3:n=pl.length:=by omega
     subst hne3;rw[<-hsl,List.take_length]at HGI;go_wp2_with fail;refine bodyPost_ret (Kz rfl _ _ _ rfl) rfl ?_;refine HOK gs _ _ (by rw[HGI.out.f];exact HGI.out) (by rw[HGI.out.f];exact HSP.out) ?_ (HW2.out.trans (HBQ.out.mono HW2.out.size));rcases HGM.out with h|⟨init,last,vs,lv,h1,h2⟩
     .exact .inl h
     .exact .inr ⟨init,last,vs,lv,w2.heap.size,h1,HW2.out.size,h2⟩
end Go.Proofs.YtpidfnfilnkhkaaGreat
