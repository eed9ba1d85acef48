import Derived.Test.YtpidfnfilnkhkaaGreatJ41
set_option maxHeartbeats 4000000
set_option maxRecDepth 100000
namespace Go.Proofs.YtpidfnfilnkhkaaGreat
open Go.RowKit Tryz
theorem eD(c:Int)(f:Nat)(w:World) :
  Calls prog 82 #[.agg #[.int .i64 c,.func (.func f) #[] #[]]] w (Rt (.bool (decide (c=5))) w):=by
 by_cases h:c=5
 .subst h
  go_enter func82,ntmps82
  go_wp2
  go_ret;exact⟨rfl,by go_grown⟩
 .have hd:decide (c=5)=false:=decide_eq_false h
  go_enter func82,ntmps82
  go_wp2
  go_ret;have he:(c==5)=false:=by simpa using h
  exact⟨by rw[hd];show Ending.returned (.bool (c==5))=_;rw[he],by go_grown⟩
theorem rM{g:Nat}{w:World}(h:w.rangeAt g 0 Fh)(k:Nat)(hk:k<8):∃f:Nat,w.rangeAt g (k*2) [.int .i64 ((k:Int)+1),.func (.func f) #[] #[]]:=by
 have h9:∃f:Nat,Fh[k*2]?=some (.int .i64 ((k:Int)+1))/\Fh[k*2+1]?=some (.func (.func f) #[] #[]):=by
  match k,hk with
  |0,_=>exact⟨_,rfl,rfl⟩
  |1,_=>exact⟨_,rfl,rfl⟩
  |2,_=>exact⟨_,rfl,rfl⟩
  |3,_=>exact⟨_,rfl,rfl⟩
  |4,_=>exact⟨_,rfl,rfl⟩
  |5,_=>exact⟨_,rfl,rfl⟩
  |6,_=>exact⟨_,rfl,rfl⟩
  |7,_=>exact⟨_,rfl,rfl⟩
 obtain⟨f,h1,h2⟩:=h9;refine⟨f,Aa ?_ (Aa ?_ (Ao _ _ _))⟩
 .have:=h _ _ h1
  rwa [Nat.zero_add]at this
 .have:=h _ _ h2
  rwa [Nat.zero_add]at this
theorem bV(g G:Nat)(w:World)(hr:w.rangeAt g 0 Fh)(hg:g<w.heap.size) :
  Calls prog 114 #[.slice (some ⟨g,0,none⟩) 8 G,.func (.func 82) #[] #[]] w (Rt (.int .i64 4) w):=by
 have HR:=iH hr;clear hr;go_enter func114,ntmps114
 go_wp2
 go_loopw [8] (λi wr=>∃k:Nat,k<=4/\i=.int .i64 ((k:Nat):Int)/\Below w.heap.size w wr) (λi _=>8-(intOf i).toNat)
 case atStart=>exact⟨0,by omega,rfl,Below.refl _ _⟩
 case round =>
  obtain⟨k,hk,rfl,hB⟩:=hrel;obtain⟨f,hf⟩:=rM HR k (by omega);have HF:Hid (wr.rangeAt g (k*2) [.int .i64 ((k:Int)+1),.func (.func f) #[] #[]]):=λj v hj=>(hB.cell (p:=⟨g,k*2+j,none⟩) hg).trans (hf j v hj)
  have i1:((k:Nat):Int)<8:=by omega
  clear hf;go_wp2_with(first|(refine wpList_load_mid rfl 143 _ rfl g (k*2) (by first|rfl|(simp[go_sem];done)) [.int .i64 ((k:Int)+1),.func (.func f) #[] #[]] _ HF underlying143 rfl Nh ?_));refine(eD ((k:Int)+1) f _).mono ?_;rintro e w5⟨rfl,hb5⟩;have hB5:=qTr hB hb5;by_cases h4:k=4
  .subst h4
   have hd:decide (((4:Nat):Int)+1=5)=true:=by decide
   rw[hd]
   go_wp2
   go_ret;exact⟨rfl,hB5⟩
  .have hd:decide (((k:Nat):Int)+1=5)=false:=decide_eq_false (by omega)
   rw[hd]
   go_wp2
   go_roundw
   case rel=>exact⟨k+1,by omega,by go_num,hB5⟩
   case measure=>simp[intOf];omega
theorem uM{w w':World}{b o n B:Nat}(h:w.there b o n)(hb:Below B w w')(hB:b<B):w'.there b o n:=λj hj=>by
 have h9:=h j hj;exact⟨by rw[hb.cell (p:=⟨b,o+j,none⟩) hB];exact h9.1,by rw[World.frozen?_of_block (a:=⟨b,o+j,none⟩) (hb.block b hB)];exact h9.2⟩
theorem jU{w w':World}{b o B:Nat}{l:List Value}(h:w.rangeAt b o l)(hb:Below B w w')(hB:b<B):w'.rangeAt b o l:=λj v hj=>(hb.cell (p:=⟨b,o+j,none⟩) hB).trans (h j v hj)
theorem rG{g:Nat}{w:World}(j:Nat)(h5:5<=j)(h8:j<8)(h:w.rangeAt g (j*2) (Fh.drop (j*2))):∃f:Nat,w.rangeAt g (j*2) [.int .i64 ((j:Int)+1),.func (.func f) #[] #[]]/\Pq.take (j*2)=Pq.take ((j-1)*2)++[.int .i64 ((j:Int)+1),.func (.func f) #[] #[]]/\w.rangeAt g ((j+1)*2) (Fh.drop ((j+1)*2)):=by
 have h9:∃f:Nat,Fh.drop (j*2)=[.int .i64 ((j:Int)+1),.func (.func f) #[] #[]]++Fh.drop ((j+1)*2)/\Pq.take (j*2)=Pq.take ((j-1)*2)++[.int .i64 ((j:Int)+1),.func (.func f) #[] #[]]:=by
  rcases(by omega:j=5\/j=6\/j=7)with rfl|rfl|rfl<;>exact⟨_,rfl,rfl⟩
 obtain⟨f,h1,h2⟩:=h9;rw[h1]at h;refine⟨f,λi v hi=>h i v ?_,h2,λi v hi=>?_⟩
 .rw[List.getElem?_append_left (Ac hi)]
  exact hi
 .have h3:=h (i+2) v (by rw[List.getElem?_append_right (by simp)];simpa using hi)
  rwa [show j*2+(i+2)=(j+1)*2+i by omega]at h3
theorem mT{g:Nat}{w:World}(h:w.rangeAt g 0 Fh):w.rangeAt g 0 (Pq.take ((5-1)*2))/\w.rangeAt g (5*2) (Fh.drop (5*2)):=by
 have e:Fh=(Pq.take ((5-1)*2)++[.int .i64 5,.func (.func 140) #[] #[]])++Fh.drop (5*2):=rfl;rw[e]at h;refine⟨λi v hi=>h i v ?_,λi v hi=>?_⟩
 .rw[List.append_assoc,List.getElem?_append_left (Ac hi)]
  exact hi
 .have h3:=h (i+10) v (by rw[List.getElem?_append_right (by simp)];simpa using hi)
  rwa [show 0+(i+10)=5*2+i by omega]at h3
theorem sH(w:World)(g n c:Nat)(ht:w.there g n 2)(ty:TypeId):(Builtin.clear_ #[110] ty #[.slice (some ⟨g,n,none⟩) 1 c]).run prog w=.ok (.tuple #[]) (w.setCells g n [.int .i64 0,.nilFunc]):=by
 obtain⟨i0,hi0,hz0,hzs,hzb⟩:=eE;have hv:∀w,(zeroValue 143).run prog w=.ok (.agg #[.int .i64 0,.nilFunc]) w:=λw=>by simp[zeroValue,typeInfo,hi0,hz0]
 have hzc:(Builtin.zeroCells (Value.agg #[.int .i64 0,.nilFunc]).cells 1).toList=[.int .i64 0,.nilFunc]:=by
  simp only[Builtin.zeroCells,Value.cells];apply List.ext_getElem
  .simp
  .intro i h1 h2
   simp at h2;rcases(by omega:i=0\/i=1)with rfl|rfl<;>simp
 have hst:=run_storeCells_cells (P:=prog) g n [.int .i64 0,.nilFunc] 0 w (λj hj=>by simpa using(ht j hj).1) (λj hj=>by simpa using(ht j hj).2) (by intro v hv';simp at hv';rcases hv' with rfl|rfl<;>rfl);simp only[Nat.add_zero]at hst;simp[Builtin.clear_,run_underlying underlying110,hv,hzc,hst]
theorem Tm{g B:Nat}{a:World}:∀(vs:List Value)(o:Nat)(w:World),But g B a w->But g B a (w.setCells g o vs)
 |[],_,_,h=>h
 |v::vs,o,_,h=>Tm vs (o+1) _ (h.set o v)
theorem jT(g G:Nat)(w:World)(hr:w.rangeAt g 0 Fh)(hg:g<w.heap.size)(ht:w.there g 0 16)(hG:8<=G) :
  Calls prog 80 #[.slice (some ⟨g,0,none⟩) 8 G,.func (.func 82) #[] #[]] w λe w'=>e=.returned (.slice (some ⟨g,0,none⟩) 7 G)/\w'.rangeAt g 0 Pq/\But g w.heap.size w w':=by
 have HR:=iH hr;have HT:=iH ht;clear hr ht;go_enter func80,ntmps80;go_wp2_with fail;refine(bV g G _ HR hg).mono ?_;rintro e w1⟨rfl,hb1⟩;have HR1:=iH (jU HR hb1 hg);have HT1:=iH (uM HT hb1 hg);have HB1:Hid (But g w.heap.size w w1):=But.of_below hb1;have HA:=iH (mT HR1);clear hb1
 go_wp2
 go_loopw [5,6] (λiv jv wr=>∃j:Nat,5<=j/\j<=8/\iv=.int .i64 (((j-1:Nat):Nat):Int)/\jv=.int .i64 ((j:Nat):Int)/\Hid (wr.rangeAt g 0 (Pq.take ((j-1)*2)))/\Hid (wr.rangeAt g (j*2) (Fh.drop (j*2)))/\Hid (wr.there g 0 16)/\Hid (But g w.heap.size w wr)) (λ_ jv _=>8-(intOf jv).toNat)
 case atStart=>exact⟨5,by omega,by omega,rfl,rfl,HA.out.1,HA.out.2,HT1,HB1⟩
 case round =>
  clear HA HR1 HT1 HB1 HR HT;obtain⟨j,h5,h8,rfl,rfl,HR,HD,HT,HB⟩:=hrel;have hgr:g<wr.heap.size:=lL hg HB.out.size;by_cases hlt:j<8
  .obtain⟨f,hf,he,hd⟩:=rG j h5 hlt HD
   have c0:wr.cell? ⟨g,j*2,none⟩=some (.int .i64 ((j:Int)+1)):=hf 0 _ rfl;have c1:wr.cell? ⟨g,j*2+1,none⟩=some (.func (.func f) #[] #[]):=hf 1 _ rfl;have HE:=iH he;have HD1:=iH hd;have i1:((j:Nat):Int)<8:=by omega
   clear hf he hd HD;have hza:=Blk.alloc wr #[.int .i64 0,.nilFunc] 143;have HTS:Hid ((wr.alloc (Obj.cells #[.int .i64 0,.nilFunc] 143)).there wr.heap.size 0 2):=hza.there;obtain⟨w4,HW4⟩:∃w4,Hid (w4=(wr.alloc (Obj.cells #[.int .i64 0,.nilFunc] 143)).setCells wr.heap.size 0 [.int .i64 ((j:Int)+1),.func (.func f) #[] #[]]):=⟨_,rfl⟩;have HK4:Hid (Blk wr.heap.size #[.int .i64 ((j:Int)+1),.func (.func f) #[] #[]] 143 w4):=by
    show Blk _ _ _ _
    rw[HW4.out];exact hza.setAll #[.int .i64 ((j:Int)+1),.func (.func f) #[] #[]] rfl
   have hbx:Below wr.heap.size wr w4:=by
    rw[HW4.out];exact Aj nL _ _ _ ((Below.refl _ wr).alloc nL _)
   have HBX:=iH hbx;clear hza hbx;go_upto_region 8 with(first|(refine An rfl 143 _ _ rfl wr.heap.size 0 #[.int .i64 ((j:Int)+1),.func (.func f) #[] #[]] rfl rfl HTS Nh (by simp[Value.oneCell']) w4 HW4 ?_));have k0:w4.cell? ⟨wr.heap.size,0,none⟩=some (.int .i64 ((j:Int)+1)):=HK4.out.cell rfl;have k1:w4.cell? ⟨wr.heap.size,1,none⟩=some (.func (.func f) #[] #[]):=HK4.out.cell rfl;clear c0 c1;go_wp2_with fail;refine(eD ((j:Int)+1) f _).mono ?_;rintro e w5⟨rfl,hb5⟩;have hd:decide (((j:Nat):Int)+1=5)=false:=decide_eq_false (by omega);rw[hd];have hb45:=qTr HBX hb5;have HR5:=iH (jU HR hb45 hgr);have HD5:=iH (jU HD1 hb45 hgr);have HT5:=iH (uM HT hb45 hgr);have HB5:Hid (But g w.heap.size w w5):=HB.out.trans (But.of_below (hb45.mono HB.out.size));have k0:w5.cell? ⟨wr.heap.size,0,none⟩=some (.int .i64 ((j:Int)+1)):=(hb5.cell (p:=⟨wr.heap.size,0,none⟩) HK4.out.lt).trans (HK4.out.cell rfl);have k1:w5.cell? ⟨wr.heap.size,1,none⟩=some (.func (.func f) #[] #[]):=(hb5.cell (p:=⟨wr.heap.size,1,none⟩) HK4.out.lt).trans (HK4.out.cell rfl);have HT2:Hid (w5.there g ((j-1)*2) 2):=λi hi=>by
    have h9:=HT5.out ((j-1)*2+i) (by omega)
    rwa [Nat.zero_add]at h9
   obtain⟨w6,HW6⟩:∃w6,Hid (w6=w5.setCells g ((j-1)*2) [.int .i64 ((j:Int)+1),.func (.func f) #[] #[]]):=⟨_,rfl⟩;have i2:((j-1:Nat):Int)<8:=by omega
   clear hb5 hb45 HBX;go_wp2_with(first|(refine An rfl 143 _ _ rfl g ((j-1)*2) #[.int .i64 ((j:Int)+1),.func (.func f) #[] #[]] (by first|rfl|(simp[go_sem];done)) rfl HT2 Nh (by simp[Value.oneCell']) w6 HW6 ?_));have HR6:Hid (w6.rangeAt g 0 (Pq.take ((j+1-1)*2))):=by
    show World.rangeAt _ _ _ _
    rw[Nat.add_sub_cancel,HE.out,HW6.out];exact Kp HR5 (by rw[List.length_take,Nat.min_eq_left];show(j-1)*2<=14;omega) HT2
   have HD6:Hid (w6.rangeAt g ((j+1)*2) (Fh.drop ((j+1)*2))):=by
    show World.rangeAt _ _ _ _
    rw[HW6.out];exact World.rangeAt_setCells_apart HD5 g _ _ (.inr (.inr (by simp;omega)))
   have HT6:Hid (w6.there g 0 16):=by
    show World.there _ _ _ _
    rw[HW6.out];exact World.there_setCells HT5 _ _ _
   have HB6:Hid (But g w.heap.size w w6):=by
    show But _ _ _ _
    rw[HW6.out];exact Tm _ _ _ HB5
   go_roundw
   case rel=>exact⟨j+1,by omega,by omega,by go_num,by go_num,HR6,HD6,HT6,HB6⟩
   case measure=>simp[intOf];omega
  .have hje:j=8:=by omega
   subst hje;have HT2:wr.there g 14 2:=λi hi=>by
    have h9:=HT.out (14+i) (by omega)
    rwa [Nat.zero_add]at h9
   have hcl:=sH wr g 14 (G-7) HT2;have HZ:Hid ((wr.setCells g 14 [.int .i64 0,.nilFunc]).rangeAt g 0 Pq):=World.rangeAt_setCells_apart HR g 14 _ (.inr (.inl (by decide)));have HZB:Hid (But g w.heap.size w (wr.setCells g 14 [.int .i64 0,.nilFunc])):=Tm _ _ _ HB;have g1:7<=G:=by omega
   clear HT2 HR HD HT HB
   go_wp2
   go_ret;exact⟨rfl,HZ,HZB⟩
open Go.WideMaps Go.Maps Tryz
theorem Zj{g b:Nat}(hne:b≠g):∀(vs:List Value)(o:Nat)(w:World),(w.setCells g o vs).heap[b]?=w.heap[b]?
 |[],_,_=>rfl
 |v::r,o,w=>(Zj hne r (o+1) _).trans (Below.heap_setCell w ⟨g,o,none⟩ v b hne)
theorem aD(k:VC)(hp:VPre k)(hm:(Bc k.x k.y k.b).length<=10)(w:World)(hw:Below k.L0 k.W0 w) :
  Calls prog 55 #[.agg (Ai k.p k.ci k.bi k.y k.a7 k.c7 k.b k.am k.cm k.u1 k.u2 k.u3)] w λe w'=>∃(gp rb rc:Nat)(is:List Int)(gs:List (List Nat))(ag:OA)(cg:Nat),e=.returned (.agg (Co (k.at gp rb rc is) ag gs.length cg))/\BF k gp rb rc is gs ag cg w'/\Below w.heap.size w w'/\w.heap.size<=gp/\w.heap.size<=rb:=by
 have hLW:=hp.LW;have HP:=iH hp;have hws:k.L0<=w.heap.size:=by have:=hw.size;rw[hLW];exact this
 obtain⟨l2,l3,_,_,h4,h5⟩:=Aw hp.hv;have hsb:=hp.ow.copies hp.sz (by unfold maxLen;omega) hp.lB;have HW:=iH hw;have HSB:=iH hsb;have H4:=iH h4;have H5:=iH h5;clear hp hw hsb h4 h5;have hb0:Below w.heap.size w ((w.alloc (Obj.cells (Ai k.p k.ci k.bi k.y k.a7 k.c7 k.b k.am k.cm k.u1 k.u2 k.u3) 60)).alloc (Obj.cells #[.pointer none,.int .i64 0,.string ⟨#[]⟩,.string ⟨#[]⟩,.int .i64 0,.int .i64 0,.int .i64 0,.int .i64 0,.string ⟨#[]⟩,.slice none 0 0,.int .i64 0,.string ⟨#[]⟩,.string ⟨#[]⟩,.string ⟨#[]⟩,.int .i64 0,.string ⟨#[]⟩,.string ⟨#[]⟩,.slice none 0 0,.int .i64 0,.int .i64 0,.bool false,.int .i64 0,.int .i64 0,.int .i64 0,.slice none 0 0,.slice none 0 0,.slice none 0 0] 112)):=((Below.refl _ w).alloc nL _).alloc (by simp) _;have e1:Blk w.heap.size (Ai k.p k.ci k.bi k.y k.a7 k.c7 k.b k.am k.cm k.u1 k.u2 k.u3) 60 ((w.alloc (Obj.cells (Ai k.p k.ci k.bi k.y k.a7 k.c7 k.b k.am k.cm k.u1 k.u2 k.u3) 60)).alloc (Obj.cells #[.pointer none,.int .i64 0,.string ⟨#[]⟩,.string ⟨#[]⟩,.int .i64 0,.int .i64 0,.int .i64 0,.int .i64 0,.string ⟨#[]⟩,.slice none 0 0,.int .i64 0,.string ⟨#[]⟩,.string ⟨#[]⟩,.string ⟨#[]⟩,.int .i64 0,.string ⟨#[]⟩,.string ⟨#[]⟩,.slice none 0 0,.int .i64 0,.int .i64 0,.bool false,.int .i64 0,.int .i64 0,.int .i64 0,.slice none 0 0,.slice none 0 0,.slice none 0 0] 112)):=(Blk.alloc w _ _).below ((Below.refl _ _).alloc nL _) (Blk.alloc w _ _).lt;have e2:Blk (w.heap.size+1) #[.pointer none,.int .i64 0,.string ⟨#[]⟩,.string ⟨#[]⟩,.int .i64 0,.int .i64 0,.int .i64 0,.int .i64 0,.string ⟨#[]⟩,.slice none 0 0,.int .i64 0,.string ⟨#[]⟩,.string ⟨#[]⟩,.string ⟨#[]⟩,.int .i64 0,.string ⟨#[]⟩,.string ⟨#[]⟩,.slice none 0 0,.int .i64 0,.int .i64 0,.bool false,.int .i64 0,.int .i64 0,.int .i64 0,.slice none 0 0,.slice none 0 0,.slice none 0 0] 112 ((w.alloc (Obj.cells (Ai k.p k.ci k.bi k.y k.a7 k.c7 k.b k.am k.cm k.u1 k.u2 k.u3) 60)).alloc (Obj.cells #[.pointer none,.int .i64 0,.string ⟨#[]⟩,.string ⟨#[]⟩,.int .i64 0,.int .i64 0,.int .i64 0,.int .i64 0,.string ⟨#[]⟩,.slice none 0 0,.int .i64 0,.string ⟨#[]⟩,.string ⟨#[]⟩,.string ⟨#[]⟩,.int .i64 0,.string ⟨#[]⟩,.string ⟨#[]⟩,.slice none 0 0,.int .i64 0,.int .i64 0,.bool false,.int .i64 0,.int .i64 0,.int .i64 0,.slice none 0 0,.slice none 0 0,.slice none 0 0] 112)):=by
  have h:=Blk.alloc (w.alloc (Obj.cells (Ai k.p k.ci k.bi k.y k.a7 k.c7 k.b k.am k.cm k.u1 k.u2 k.u3) 60)) #[.pointer none,.int .i64 0,.string ⟨#[]⟩,.string ⟨#[]⟩,.int .i64 0,.int .i64 0,.int .i64 0,.int .i64 0,.string ⟨#[]⟩,.slice none 0 0,.int .i64 0,.string ⟨#[]⟩,.string ⟨#[]⟩,.string ⟨#[]⟩,.int .i64 0,.string ⟨#[]⟩,.string ⟨#[]⟩,.slice none 0 0,.int .i64 0,.int .i64 0,.bool false,.int .i64 0,.int .i64 0,.int .i64 0,.slice none 0 0,.slice none 0 0,.slice none 0 0] 112;simpa using h
 have HX:=iH e1;have H2:=iH e2;have HB:=iH hb0;clear e1 e2 hb0;go_enter func55,ntmps55;go_upto_region 1 with fail;generalize(w.alloc (Obj.cells (Ai k.p k.ci k.bi k.y k.a7 k.c7 k.b k.am k.cm k.u1 k.u2 k.u3) 60)).alloc (Obj.cells #[.pointer none,.int .i64 0,.string ⟨#[]⟩,.string ⟨#[]⟩,.int .i64 0,.int .i64 0,.int .i64 0,.int .i64 0,.string ⟨#[]⟩,.slice none 0 0,.int .i64 0,.string ⟨#[]⟩,.string ⟨#[]⟩,.string ⟨#[]⟩,.int .i64 0,.string ⟨#[]⟩,.string ⟨#[]⟩,.slice none 0 0,.int .i64 0,.int .i64 0,.bool false,.int .i64 0,.int .i64 0,.int .i64 0,.slice none 0 0,.slice none 0 0,.slice none 0 0] 112)=w0 at *;refine wp_region_held_drew (S:=λwy=>Blk w.heap.size (Ai k.p k.ci k.bi k.y k.a7 k.c7 k.b k.am k.cm k.u1 k.u2 k.u3) 60 wy) (by kernel_rfl) HX.out.drew (λhS=>?_);replace HB:=iH HB.out.drew;replace H2:=iH H2.out.drew;replace HX:=iH HX.out.drew;generalize w0.drew=wd at *;have hs2:w.heap.size+1<wd.heap.size:=H2.out.lt;refine tk 0 ⟨some 3,_,_,_,_,none⟩ (.agg (Ai k.p k.ci k.bi k.y k.a7 k.c7 k.b k.am k.cm k.u1 k.u2 k.u3)) rfl (yieldsIf_load_mid (by rfl) _ _ rfl w.heap.size 0 rfl (Ai k.p k.ci k.bi k.y k.a7 k.c7 k.b k.am k.cm k.u1 k.u2 k.u3).toList _ (λ_ h=>h.rangeA) underlying60 rfl Bk) hS ?_;refine tk 1 ⟨some 4,_,_,_,_,none⟩ (.agg (Ai k.p k.ci k.bi k.y k.a7 k.c7 k.b k.am k.cm k.u1 k.u2 k.u3)) rfl (yieldsIf_load_mid (by rfl) _ _ rfl w.heap.size 0 rfl (Ai k.p k.ci k.bi k.y k.a7 k.c7 k.b k.am k.cm k.u1 k.u2 k.u3).toList _ (λ_ h=>h.rangeA) underlying60 rfl Bk) hS ?_;refine tz 3 6 (.pointer (some ⟨w.heap.size,0,none⟩)) ?_;refine ty 4 ⟨some 7,_,_,_,_,none⟩ (.pointer (some ⟨k.p,0,none⟩)) ?_ ?_
 .intro wy hy
  have hcell:wy.cell? ⟨w.heap.size,0,none⟩=some (.pointer (some ⟨k.p,0,none⟩)):=hy.cell rfl;clear hy;go_simp
 refine rd1 2 ⟨some 5,_,_,_,_,none⟩ rfl (λKK hKK=>?_);go_simp;refine(iA k HP hm wd (HW.out.trans (HB.out.mono hws))).mono ?_;rintro e w1⟨gs,ag,cg,rfl,hga,hgl,hb1⟩;have hs1:=hb1.size;replace HX:=qBk HX hb1;replace H2:=qBk H2 hb1;replace HB:=qTH HB hb1;have HGA:=iH hga;have HGL:=iH hgl;refine hKK.out _ _ HX (λhS=>?_);clear hKK KK hga hgl hb1;have HBW:Hid (Below k.L0 k.W0 w1):=(HW.out.trans (HB.out.mono hws));have hbw:Below k.W0.heap.size k.W0 w1:=by rw[<-hLW];exact HBW.out
 have HF:=iH (HP.out.fm.below hbw);have HN2:=iH (HP.out.n2.below SvcC.holds hbw nL);have HN3:=qSl CpyC.holds HSB hbw;clear hbw;refine rd1 5 ⟨some 8,_,_,_,_,none⟩ rfl (λKK hKK=>?_);go_simp;refine(nP k.p k.m2 k.x k.a2 k.c2 (some ⟨k.G,0,none⟩) k.q k.lo w1 (HF.out.1 2 _ rfl) (HF.out.1 3 _ rfl) (HF.out.1 5 _ rfl) HF.out.2.2.2.1 HN2 HN3 l2 l3 H4 H5).mono ?_;rintro e w2⟨gp,is,rfl,hsp,hro,hb2⟩;have hs3:=hb2.size;replace HX:=qBk HX hb2;replace H2:=qBk H2 hb2;replace HB:=qTH HB hb2;have HSP:=iH hsp;have HRO:=iH hro;have hgp:=hro.lt gp rfl;replace HGL:=qSl LstC.holds HGL hb2;refine hKK.out _ _ HX (λhS=>?_);clear hKK KK hsp hro hb2 HF HN2 HN3 HBW;refine rd1 6 ⟨some 9,_,_,_,_,none⟩ rfl (λKK hKK=>?_);go_simp;refine(Ze w2).mono ?_;rintro e w3⟨rb,rc,rfl,hr3,hr1,hr2,hb3,hfz,hrc⟩;replace HX:=qBk HX hb3;replace H2:=qBk H2 hb3;have HB3:=iH hb3;have HR3:=iH hr3;have HFZ:=iH hfz;refine hKK.out _ _ HX (λhS=>?_);clear hKK KK hb3 hr3 hfz;refine rd1 7 ⟨some 10,_,_,_,_,none⟩ rfl (λKK hKK=>?_);go_simp
 refine(jT rb rc w3 HR3 hr2 (λj hj=>⟨by
  have h9:∃v,Fh[j]?=some v:=⟨Fh[j]'(by rw[show Fh.length=16 from rfl];exact hj),gE _⟩;obtain⟨v,hv⟩:=h9;rw[HR3.out j v hv]
  rfl,HFZ _⟩) hrc).mono ?_
 rintro e w4⟨rfl,hr4,hbt⟩;have hb4:Below w2.heap.size w2 w4:=HB3.out.trans ⟨hbt.os,hbt.tape,hbt.output,hbt.size,λb hb=>hbt.block b (lL hb HB3.out.size) (by omega)⟩;have hs4:=hb4.size;have hrl:rb<w4.heap.size:=lL hr2 hbt.size;replace HX:Hid (Blk w.heap.size (Ai k.p k.ci k.bi k.y k.a7 k.c7 k.b k.am k.cm k.u1 k.u2 k.u3) 60 w4):=(hbt.block _ HX.out.lt (by omega)).trans HX;replace H2:Hid (Blk (w.heap.size+1) #[.pointer none,.int .i64 0,.string ⟨#[]⟩,.string ⟨#[]⟩,.int .i64 0,.int .i64 0,.int .i64 0,.int .i64 0,.string ⟨#[]⟩,.slice none 0 0,.int .i64 0,.string ⟨#[]⟩,.string ⟨#[]⟩,.string ⟨#[]⟩,.int .i64 0,.string ⟨#[]⟩,.string ⟨#[]⟩,.slice none 0 0,.int .i64 0,.int .i64 0,.bool false,.int .i64 0,.int .i64 0,.int .i64 0,.slice none 0 0,.slice none 0 0,.slice none 0 0] 112 w4):=(hbt.block _ H2.out.lt (by omega)).trans H2;replace HB:=qTH HB hb4;replace HGL:=qSl LstC.holds HGL hb4;have HRO4:=iH (Ak HRO hb4);have HR4:=iH hr4;refine hKK.out _ _ HX (λhS=>?_);clear hKK KK hbt hb4 hr4 HR3 HFZ HB3 HRO;refine ty 8 ⟨some 11,_,_,_,_,none⟩ (.agg (Co (k.at gp rb rc is) ag gs.length cg)) ?_ ?_
 .intro wy hy
  clear hy;go_simp;simp[VC.at]
 refine rd1 9 ⟨none,_,_,_,_,none⟩ rfl (λKK hKK=>?_);rw[if_pos (by rfl)];refine wp_store_mid 112 (.tmp 2) (.tmp 11) (by rfl) (w.heap.size+1) 0 (Co (k.at gp rb rc is) ag gs.length cg) (by rfl) (by rfl) H2.out.there Li (by simp[Value.oneCell']) ?_;have HC:=iH (H2.out.setAll (Co (k.at gp rb rc is) ag gs.length cg) rfl);have HBZ:=iH (Aj (show w.heap.size<=w.heap.size+1 by omega) (Co (k.at gp rb rc is) ag gs.length cg).toList 0 _ HB);have hot:∀b,b≠w.heap.size+1->(w4.setCells (w.heap.size+1) 0 (Co (k.at gp rb rc is) ag gs.length cg).toList).heap[b]?=w4.heap[b]?:=λb hb=>Zj hb _ 0 w4
 have hsz:(w4.setCells (w.heap.size+1) 0 (Co (k.at gp rb rc is) ag gs.length cg).toList).heap.size=w4.heap.size:=Az _ _ _;have HXZ:Hid (Blk w.heap.size (Ai k.p k.ci k.bi k.y k.a7 k.c7 k.b k.am k.cm k.u1 k.u2 k.u3) 60 (w4.setCells (w.heap.size+1) 0 (Co (k.at gp rb rc is) ag gs.length cg).toList)):=(hot _ (by omega)).trans HX;have HGZ:Hid (SliceC LstC 1 k.L0 (w4.setCells (w.heap.size+1) 0 (Co (k.at gp rb rc is) ag gs.length cg).toList) ag gs):=HGL.out.keep LstC.holds (Keeps.setCells hs2 _ 0 w4) (by omega);have HRZ:Hid ((w4.setCells (w.heap.size+1) 0 (Co (k.at gp rb rc is) ag gs.length cg).toList).ownsRow k.L0 3 1 (.slice (some ⟨gp,0,none⟩) is.length is.length) is.length (inV is)):=Ew (cS HRO4 (by omega)) (hot gp (by omega));have HSZ:Hid ((w4.setCells (w.heap.size+1) 0 (Co (k.at gp rb rc is) ag gs.length cg).toList).rangeAt rb 0 Pq):=λj v hj=>(World.cell?_of_block (w:=w4) (a:=⟨rb,0+j,none⟩) (hot rb (by omega))).trans (HR4 j v hj)
 refine hKK.out _ _ HXZ (λhS=>?_);clear hKK KK H2 HX HB HGL HRO4 HR4 hot HXZ;generalize w4.setCells (w.heap.size+1) 0 (Co (k.at gp rb rc is) ag gs.length cg).toList=wz at *;refine td ?_;clear hS;go_wp2_with fail;have hb9:Below k.W0.heap.size k.W0 wz:=by rw[<-hLW];exact HW.out.trans (HBZ.out.mono hws)
 refine bodyPost_ret (Bi rfl _ _ (w.heap.size+1) (Co (k.at gp rb rc is) ag gs.length cg).toList _ rfl HC.out.rangeA underlying112 rfl Li) rfl ?_;refine⟨gp,rb,rc,is,gs,ag,cg,rfl,⟨HSP,by omega,by omega,?_,⟨HGZ,HGA.out.ad,HGA.out.cp,HGA.out.gr,HGA.out.mem⟩,by omega⟩,HBZ,by omega,by omega⟩;exact⟨⟨⟨hb9.os,hb9.tape,hb9.output⟩,hb9.size,λb q _ _=>hb9.block b q⟩,HP.out.fm.below hb9,HP.out.ow.below hb9,HRZ,HSZ,by show rb<wz.heap.size;omega⟩
attribute [local go_sem] Oper.semAt_some
def BP(k:VC)(r:List Nat)(found:Bool):Prop:=(found=true->Best (rkV k.x) (Bc k.x k.y k.b) (okV k.x k.ci k.y k.b) r)/\(found=false->r=[]/\∀h,h.Sublist (Bc k.x k.y k.b)->¬okV k.x k.ci k.y k.b h)
def CC(k:VC)(w:World)(e:Ending)(w':World):Prop:=∃(r:List Nat)(a:OA)(c:Nat)(found:Bool),e=.returned (.tuple #[.slice a r.length c,.bool found])/\BP k r found/\SliceC IntC 1 k.L0 w' a (plI r)/\(∀e∈r,e∈Bc k.x k.y k.b)/\FoundM k.p k.m1 k.m2 k.m3 k.m4 (k.y.select,k.bi) k.x k.a1 k.c1 k.a2 k.c2 (some ⟨k.G,0,none⟩) k.q w'/\OwnCT k.lo k.B w' (.slice (some ⟨k.G,0,none⟩) k.x.copies.length k.q) k.x.copies/\Bt2 k.G k.m4 w w'
theorem lJ{lo g:Nat}{W:World}{a:OA}{l:List Int}{v:Value}{t:TypeId}(h:SliceC IntC 1 lo W a l)(hg:Blk g #[v] t W)(hv:∀i,v≠.int .i64 i):∀b o,l≠[]->a=some ⟨b,o,none⟩->b≠g:=by
 rintro b o hn rfl rfl;rcases h.2 with q|⟨b',o',e,_,_,h3⟩
 .exact hn q
 .cases e
  obtain⟨x,hx⟩:∃x,l[0]?=some x:=⟨l[0]'(List.length_pos_iff.2 hn),gE _⟩;have h9:W.cell? ⟨b,o+0*1+0,none⟩=some (.int .i64 x):=h3 0 x hx;unfold World.cell? at h9;rw[show W.heap[b]?=_ from hg]at h9
  cases o with
  |zero=>exact hv x (by simpa using h9)
  |succ o=>simp at h9
theorem Mr{fn:Func}{p q:Tmp}(h:fn.results=#[.cell p 68,.cell q 4])(tmps:Array Value)(w:World)(g1 g2:Nat)(v:Value)(b:Bool)(hp:tmps.getD p undef=.pointer (some ⟨g1,0,none⟩))(hq:tmps.getD q undef=.pointer (some ⟨g2,0,none⟩))(hv:w.cell? ⟨g1,0,none⟩=some v)(hc:w.cell? ⟨g2,0,none⟩=some (.bool b)) :
  (results fn tmps).run prog w=.ok (.tuple #[v,.bool b]) w:=by
 have hp':tmps[p]?.getD undef=.pointer (some ⟨g1,0,none⟩):=by simpa using hp
 have hq':tmps[q]?.getD undef=.pointer (some ⟨g2,0,none⟩):=by simpa using hq
 have h1:(loadVar 68 ⟨g1,0,none⟩).run prog w=.ok v w:=by simp[go_sem,hv]
 have h2:(loadVar 4 ⟨g2,0,none⟩).run prog w=.ok (.bool b) w:=by simp[go_sem,hc]
 simp[results,h,hp',hq',asAddr,h1,h2,Sem.run_bind,Result.andThen]
theorem cL(k:VC)(hp:VPre k)(hm:(Bc k.x k.y k.b).length<=10) :
  Calls prog 25 #[.agg (Ai k.p k.ci k.bi k.y k.a7 k.c7 k.b k.am k.cm k.u1 k.u2 k.u3)] k.W0 (CC k k.W0):=by
 have hLW:=hp.LW;have HP:=iH hp;have g1:k.G<k.W0.heap.size:=hp.ow.lt;have g2:k.m4<k.W0.heap.size:=hp.fm.memo.lt;have e1:Blk k.W0.heap.size (Ai k.p k.ci k.bi k.y k.a7 k.c7 k.b k.am k.cm k.u1 k.u2 k.u3) 60 (((k.W0.alloc (Obj.cells (Ai k.p k.ci k.bi k.y k.a7 k.c7 k.b k.am k.cm k.u1 k.u2 k.u3) 60)).alloc (Obj.cells #[Value.slice none 0 0] 68)).alloc (Obj.cells #[Value.bool false] 4)):=(Blk.alloc k.W0 _ _).below (((Below.refl _ _).alloc nL _).alloc (by simp) _) (Blk.alloc k.W0 _ _).lt;have e2:Blk (k.W0.heap.size+1) #[.slice none 0 0] 68 (((k.W0.alloc (Obj.cells (Ai k.p k.ci k.bi k.y k.a7 k.c7 k.b k.am k.cm k.u1 k.u2 k.u3) 60)).alloc (Obj.cells #[Value.slice none 0 0] 68)).alloc (Obj.cells #[Value.bool false] 4)):=by
  have h:=(Blk.alloc (k.W0.alloc (Obj.cells (Ai k.p k.ci k.bi k.y k.a7 k.c7 k.b k.am k.cm k.u1 k.u2 k.u3) 60)) #[.slice none 0 0] 68).below ((Below.refl _ _).alloc nL (Obj.cells #[Value.bool false] 4)) (Blk.alloc _ _ _).lt;simpa using h
 have e3:Blk (k.W0.heap.size+1+1) #[.bool false] 4 (((k.W0.alloc (Obj.cells (Ai k.p k.ci k.bi k.y k.a7 k.c7 k.b k.am k.cm k.u1 k.u2 k.u3) 60)).alloc (Obj.cells #[Value.slice none 0 0] 68)).alloc (Obj.cells #[Value.bool false] 4)):=by
  have h:=Blk.alloc ((k.W0.alloc (Obj.cells (Ai k.p k.ci k.bi k.y k.a7 k.c7 k.b k.am k.cm k.u1 k.u2 k.u3) 60)).alloc (Obj.cells #[Value.slice none 0 0] 68)) #[.bool false] 4;simpa using h
 have e4:Below k.W0.heap.size k.W0 (((k.W0.alloc (Obj.cells (Ai k.p k.ci k.bi k.y k.a7 k.c7 k.b k.am k.cm k.u1 k.u2 k.u3) 60)).alloc (Obj.cells #[Value.slice none 0 0] 68)).alloc (Obj.cells #[Value.bool false] 4)):=(((Below.refl _ k.W0).alloc nL _).alloc (by simp) _).alloc (by simp;omega) _;have HX:=iH e1;have H2:=iH e2;have H3:=iH e3;have HB:=iH e4;clear hp e1 e2 e3 e4;refine(callsIn_wide (n:=7)).1 ?_;refine callsIn_of_wp_marks func25 rfl trivial ?_ rfl;refine wpIn_wide.2 ?_;simp only[ntmps25,List.size_toArray,List.length_cons,List.length_nil,Nat.reduceAdd,Nat.reduceSub,Array.replicate_succ,Array.replicate_zero,List.push_toArray,List.append_toArray,List.nil_append,List.cons_append];go_upto_region 1 with fail;generalize((k.W0.alloc (Obj.cells (Ai k.p k.ci k.bi k.y k.a7 k.c7 k.b k.am k.cm k.u1 k.u2 k.u3) 60)).alloc (Obj.cells #[Value.slice none 0 0] 68)).alloc (Obj.cells #[Value.bool false] 4)=w1 at *;have hs1:k.W0.heap.size+1+1<w1.heap.size:=H3.out.lt;go_wp2_with(first|(refine wpList_load_mid rfl 60 _ rfl k.W0.heap.size 0 (by first|rfl|(simp[go_sem];done)) (Ai k.p k.ci k.bi k.y k.a7 k.c7 k.b k.am k.cm k.u1 k.u2 k.u3).toList _ HX.out.rangeA underlying60 rfl Bk ?_));refine(aD k HP hm w1 (by rw[hLW];exact HB.out)).mono ?_;rintro e w2⟨gp,rb,rc,is,gs,ag,cg,rfl,hc,hb2,hgp1,hrb1⟩;have HC:=iH hc;replace HX:=qBk HX hb2;replace H2:=qBk H2 hb2;replace H3:=qBk H3 hb2;replace HB:=qTH HB hb2;have hs2:k.W0.heap.size+1+1<w2.heap.size:=H3.out.lt;have HO:=iH (HP.out.ok (rc:=rc) hc.sp hc.gL hc.rL);have hgpS:k.W0.heap.size+1+1<gp:=by omega
 have hrbS:k.W0.heap.size+1+1<rb:=by omega
 clear hc hb2 hs1 hgp1 hrb1;go_wp2_with fail;refine(nZ (k.at gp rb rc is) ag gs.length cg w2).mono ?_;rintro e w3⟨rfl,hw3⟩;have hb3:Below w2.heap.size w2 w3:=by rw[hw3];exact(Below.refl _ _).alloc nL _
 have HCB:Hid (Blk w2.heap.size (Co (k.at gp rb rc is) ag gs.length cg) 112 w3):=by rw[hw3];exact Blk.alloc _ _ _
 have HVS:=iH (HC.out.vs.below HO hb3);replace HX:=qBk HX hb3;replace H2:=qBk H2 hb3;replace H3:=qBk H3 hb3;replace HB:=qTH HB hb3;have HGS:=iH (HC.out.gs.sl.below LstC.holds hb3 nL);have HFW:=iH (HC.out.gs.few hm);have hs3:k.W0.heap.size+1+1<w3.heap.size:=H3.out.lt;have hgp3:gp<w3.heap.size:=(HVS.out.rw.lt gp rfl).2;have hrb3:rb<w3.heap.size:=HVS.out.rl;have hL3:k.L0<=w3.heap.size:=by rw[hLW];omega
 generalize w2.heap.size=Cb at *;clear hw3 hb3;go_wp2_with fail
 refine wpIn_wide.1 (pV (n:=6) (k.at gp rb rc is) HO hL3 (gf:=83) (lb:=#[.pointer (some ⟨Cb,0,none⟩)]) rfl (enters_of func83 (by kernel_rfl) rfl)
  (oT (k.at gp rb rc is) HO hm gs ag cg Cb w3 HCB HGS HC.out.gs.ad HC.out.gs.cp HC.out.gs.ok HFW.out.1 HFW.out.2 hL3) rfl
  (λpre W=>VS (k.at gp rb rc is) W/\Bt2 k.G k.m4 w3 W/\∀x∈pre,cQ k.x k.ci k.y k.b x.l=false)
  (λpre W=>∃(pre':List TL)(x:TL),pre=pre'++[x]/\(∀z∈pre',cQ k.x k.ci k.y k.b z.l=false)/\cQ k.x k.ci k.y k.b x.l=true/\TlOk (k.at gp rb rc is) x W/\VS (k.at gp rb rc is) W/\Bt2 k.G k.m4 k.W0 W/\Blk (k.W0.heap.size+1) #[x.v] 68 W/\Blk (k.W0.heap.size+1+1) #[.bool true] 4 W/\w3.heap.size<=W.heap.size) ?_ ?_ ?_ ?_
  (λx a' _=>a'={tmps:=#[.agg (Ai k.p k.ci k.bi k.y k.a7 k.c7 k.b k.am k.cm k.u1 k.u2 k.u3),.pointer (some ⟨k.W0.heap.size,0,none⟩),.pointer (some ⟨k.W0.heap.size+1,0,none⟩),.pointer (some ⟨k.W0.heap.size+1+1,0,none⟩),.slice x.a x.l.length x.c,.agg (Ai k.p k.ci k.bi k.y k.a7 k.c7 k.b k.am k.cm k.u1 k.u2 k.u3),.agg (Co (k.at gp rb rc is) ag gs.length cg),.func (.func 83) #[] #[.pointer (some ⟨Cb,0,none⟩)],.slice x.a x.l.length x.c,undef,undef,undef,undef],defers:=[]}) ?_ ?_ ?_ ?_ ?_)
 .rintro s X Y row⟨h1,h2,h3⟩hgr hr
  have hlow:Below w3.heap.size X Y:=⟨hgr.os,hgr.tape,hgr.output,hgr.size,λb hb=>hgr.block b (lL hb h2.2.1) (λe=>by have:=(hr b e.symm).1;omega)⟩;exact⟨h1.low HO hlow hL3 hgp3 hrb3,h2.low hlow nL,h3⟩
 .rintro s X Y row⟨pre',x,h1,h2,h3,h4,h5,h6,h7,h8,h9⟩hgr hr
  have hlow:Below w3.heap.size X Y:=⟨hgr.os,hgr.tape,hgr.output,hgr.size,λb hb=>hgr.block b (lL hb h9) (λe=>by have:=(hr b e.symm).1;omega)⟩;exact⟨pre',x,h1,h2,h3,⟨Fa h4.1 hgr.size λb _ _ _ _ hb ⟨cs,t,f,q⟩=>hgr.block b hb (λe=>by obtain⟨_,o,k1,k2⟩:=hr b e.symm;rw[q]at k1;cases k1;cases k2),h4.2⟩,h5.low HO hlow hL3 hgp3 hrb3,h6.low hlow (by omega),(hlow.block _ (by omega)).trans h7,(hlow.block _ (by omega)).trans h8,lT h9 hgr.size⟩
 .refine⟨λpre W h=>h.1,λpre X Y h hb hS=>⟨hS,h.2.1.trans hb,h.2.2⟩,?_⟩
  rintro pre X Y⟨pre',x,h1,h2,h3,h4,h5,h6,h7,h8,h9⟩hb;exact⟨pre',x,h1,h2,h3,h4.bt2 HO (Bt2.of_below hb),h5.below HO hb,h6.trans (Bt2.of_below hb),h7.below hb h7.lt,h8.below hb h8.lt,lT h9 hb.size⟩
 .exact⟨HVS,Bt2.refl _ _ _,λx hx=>by cases hx⟩
 .rintro x a' _ X Y row h _ _
  exact h
 .rintro l' pre x W K h1 hK
  have hKK:=iH hK;clear hK
  gi_wp2
  exact hKK.out _ _ (KeepsFrom.refl _ _) (Bt2.refl _ _ _) h1 rfl
 .rintro l' pre x a' W⟨h1,h2,h3⟩rfl htl
  have hw3W:=h2.2.1;have HX1:Hid (Blk k.W0.heap.size (Ai k.p k.ci k.bi k.y k.a7 k.c7 k.b k.am k.cm k.u1 k.u2 k.u3) 60 W):=(h2.2.2 _ (by omega) (by omega) (by omega)).trans HX;have H21:Hid (Blk (k.W0.heap.size+1) #[.slice none 0 0] 68 W):=(h2.2.2 _ (by omega) (by omega) (by omega)).trans H2;have H31:Hid (Blk (k.W0.heap.size+1+1) #[.bool false] 4 W):=(h2.2.2 _ (by omega) (by omega) (by omega)).trans H3;have HB1:Hid (Bt2 k.G k.m4 k.W0 W):=Bt2.trans ⟨⟨HB.out.os,HB.out.tape,HB.out.output⟩,HB.out.size,λb q _ _=>HB.out.block b q⟩ h2;have H1:=iH h1;have HT:=iH htl;have HN:=iH h3;have HB2:=iH h2;have HCC:=iH (sM (k.at gp rb rc is) HO x.l x.a x.c W h1 htl.1 htl.2.1 (by have:=htl.2.2;omega));clear h1 h2 h3 htl
  gi_wp2_with (first|(refine Jb (by rfl) 60 _ rfl k.W0.heap.size 0 (by first|rfl|(simp[go_sem];done)) (Ai k.p k.ci k.bi k.y k.a7 k.c7 k.b k.am k.cm k.u1 k.u2 k.u3).toList _ HX1.out.rangeA underlying60 rfl Bk ?_))
  refine⟨trivial,(CallsIn.inRound l' (callsIn_wide.2 HCC)).mono ?_⟩;rintro en W8⟨rfl,hS8,hb8⟩;clear HCC HX1;have hbk:Bt2 k.G k.m4 W W8:=hb8;have hS:VS (k.at gp rb rc is) W8:=hS8;replace H21:Hid (Blk (k.W0.heap.size+1) #[.slice none 0 0] 68 W8):=(hbk.2.2 _ H21.out.lt (by omega) (by omega)).trans H21;replace H31:Hid (Blk (k.W0.heap.size+1+1) #[.bool false] 4 W8):=(hbk.2.2 _ H31.out.lt (by omega) (by omega)).trans H31;replace HB1:=iH (HB1.out.trans hbk);replace HT:=iH (HT.out.bt2 HO hb8);have hsz8:=hbk.2.1;have HS8:=iH hS;have HBK:=iH hbk;clear hS8 hb8 hS hbk;obtain⟨tv,htv⟩:∃b,cQ (k.at gp rb rc is).x (k.at gp rb rc is).ci (k.at gp rb rc is).y (k.at gp rb rc is).b x.l=b:=⟨_,rfl⟩;rw[htv];have HTV:=iH htv;clear htv
  cases tv with
  |false =>
   gi_wp2_with fail
   exact⟨Vn HBK (by omega) (by omega),HBK,HS8,HB2.out.trans HBK,λz hz=>by
   rcases List.mem_append.1 hz with hz|hz
   .exact HN.out z hz
   .rw[List.mem_singleton.1 hz];exact HTV.out⟩
  |true =>
   have r2:W8.cell? ⟨k.W0.heap.size+1,0,none⟩=some (.slice none 0 0):=H21.out.cell rfl;have f2:W8.frozen? ⟨k.W0.heap.size+1,0,none⟩=false:=H21.out.frozen 0;have r3:W8.cell? ⟨k.W0.heap.size+1+1,0,none⟩=some (.bool false):=H31.out.cell rfl;have f3:W8.frozen? ⟨k.W0.heap.size+1+1,0,none⟩=false:=H31.out.frozen 0
   gi_wp2_with fail
   have hb9:Below k.W0.heap.size W8 ((W8.setCell ⟨k.W0.heap.size+1,0,none⟩ (.slice x.a x.l.length x.c)).setCell ⟨k.W0.heap.size+1+1,0,none⟩ (.bool true)):=((Below.refl _ _).setCell (p:=⟨k.W0.heap.size+1,0,none⟩) (by show k.W0.heap.size<=k.W0.heap.size+1;omega) _).setCell (p:=⟨k.W0.heap.size+1+1,0,none⟩) (by show k.W0.heap.size<=k.W0.heap.size+1+1;omega) _;have hot:∀b,b≠k.W0.heap.size+1->b≠k.W0.heap.size+1+1->((W8.setCell ⟨k.W0.heap.size+1,0,none⟩ (.slice x.a x.l.length x.c)).setCell ⟨k.W0.heap.size+1+1,0,none⟩ (.bool true)).heap[b]?=W8.heap[b]?:=λb q1 q2=>(Below.heap_setCell _ _ _ b q2).trans (Below.heap_setCell _ _ _ b q1)
   have hsz9:=hb9.size;have hti:=HT.out.1;have hn2:=lJ hti H21 (λi q=>by cases q);have hn3:=lJ hti H31 (λi q=>by cases q);have htl:TlOk (k.at gp rb rc is) x ((W8.setCell ⟨k.W0.heap.size+1,0,none⟩ (.slice x.a x.l.length x.c)).setCell ⟨k.W0.heap.size+1+1,0,none⟩ (.bool true)):=⟨Fa hti hsz9 (λb o q1 q2 _ _ _=>hot b (hn2 b o q1 q2) (hn3 b o q1 q2)),HT.out.2⟩;have hvs:VS (k.at gp rb rc is) ((W8.setCell ⟨k.W0.heap.size+1,0,none⟩ (.slice x.a x.l.length x.c)).setCell ⟨k.W0.heap.size+1+1,0,none⟩ (.bool true)):=HS8.out.same HO (by rw[show(k.at gp rb rc is).L0=k.W0.heap.size from hLW];exact hb9) (hot _ (by show gp≠_;omega) (by show gp≠_;omega)) (hot _ (by show rb≠_;omega) (by show rb≠_;omega));have hk2:Blk (k.W0.heap.size+1) #[x.v] 68 ((W8.setCell ⟨k.W0.heap.size+1,0,none⟩ (.slice x.a x.l.length x.c)).setCell ⟨k.W0.heap.size+1+1,0,none⟩ (.bool true)):=(Below.heap_setCell _ _ _ _ (by show k.W0.heap.size+1≠k.W0.heap.size+1+1;omega)).trans (H21.out.set 0 (.slice x.a x.l.length x.c));have h39:Blk (k.W0.heap.size+1+1) #[.bool false] 4 (W8.setCell ⟨k.W0.heap.size+1,0,none⟩ (.slice x.a x.l.length x.c)):=(Below.heap_setCell _ _ _ _ (by show k.W0.heap.size+1+1≠k.W0.heap.size+1;omega)).trans H31;exact⟨(Vn HBK (by omega) (by omega)).trans (((KeepsOthers.setCell _ _ _).trans (KeepsOthers.setCell _ _ _)).from _),pre,x,rfl,HN,HTV,htl,hvs,HB1.out.low hb9 nL,hk2,h39.set 0 (.bool true),by omega⟩
 .rintro D xs W hD hS⟨h1,h2,h3⟩hKD
  have H21:Hid (Blk (k.W0.heap.size+1) #[.slice none 0 0] 68 W):=(h2.2.2 _ (by omega) (by omega) (by omega)).trans H2;have H31:Hid (Blk (k.W0.heap.size+1+1) #[.bool false] 4 W):=(h2.2.2 _ (by omega) (by omega) (by omega)).trans H3;have HB1:Hid (Bt2 k.G k.m4 k.W0 W):=Bt2.trans ⟨⟨HB.out.os,HB.out.tape,HB.out.output⟩,HB.out.size,λb q _ _=>HB.out.block b q⟩ h2;have HV1:=iH h1;have HKD:=iH hKD;have HNO:Hid (∀h,h.Sublist (Bc k.x k.y k.b)->¬okV k.x k.ci k.y k.b h):=by
   have hb:=cX HP.out.hv k.ci k.y HP.out.hb HC.out.gs.gr HC.out.gs.mem (f:=(Bc k.x k.y k.b).length+1) (by omega);refine hb.2 ?_;rw[List.find?_eq_none];intro z hz;have hS2:xs.map (·.l)=Dy (Ci k.x k.ci k.y k.b) ((Bc k.x k.y k.b).length+1) [[]] gs:=hS;rw[<-hS2]at hz;obtain⟨x,hx,rfl⟩:=List.mem_map.1 hz;rw[h3 x hx];simp
  have r2:W.cell? ⟨k.W0.heap.size+1,0,none⟩=some (.slice none 0 0):=H21.out.cell rfl;have f2:W.frozen? ⟨k.W0.heap.size+1,0,none⟩=false:=H21.out.frozen 0;have r3:W.cell? ⟨k.W0.heap.size+1+1,0,none⟩=some (.bool false):=H31.out.cell rfl;have f3:W.frozen? ⟨k.W0.heap.size+1+1,0,none⟩=false:=H31.out.frozen 0;clear h1 h2 h3 hS hKD;go_wp2_with fail;have hb9:Below k.W0.heap.size W ((W.setCell ⟨k.W0.heap.size+1,0,none⟩ (.slice none 0 0)).setCell ⟨k.W0.heap.size+1+1,0,none⟩ (.bool false)):=((Below.refl _ _).setCell (p:=⟨k.W0.heap.size+1,0,none⟩) (by show k.W0.heap.size<=k.W0.heap.size+1;omega) _).setCell (p:=⟨k.W0.heap.size+1+1,0,none⟩) (by show k.W0.heap.size<=k.W0.heap.size+1+1;omega) _;have hot:∀b,b≠k.W0.heap.size+1->b≠k.W0.heap.size+1+1->((W.setCell ⟨k.W0.heap.size+1,0,none⟩ (.slice none 0 0)).setCell ⟨k.W0.heap.size+1+1,0,none⟩ (.bool false)).heap[b]?=W.heap[b]?:=λb q1 q2=>(Below.heap_setCell _ _ _ b q2).trans (Below.heap_setCell _ _ _ b q1)
  have hk2:Blk (k.W0.heap.size+1) #[.slice none 0 0] 68 ((W.setCell ⟨k.W0.heap.size+1,0,none⟩ (.slice none 0 0)).setCell ⟨k.W0.heap.size+1+1,0,none⟩ (.bool false)):=(Below.heap_setCell _ _ _ _ (by show k.W0.heap.size+1≠k.W0.heap.size+1+1;omega)).trans (H21.out.set 0 (.slice none 0 0));have h39:Blk (k.W0.heap.size+1+1) #[.bool false] 4 (W.setCell ⟨k.W0.heap.size+1,0,none⟩ (.slice none 0 0)):=(Below.heap_setCell _ _ _ _ (by show k.W0.heap.size+1+1≠k.W0.heap.size+1;omega)).trans H31;have hk3:Blk (k.W0.heap.size+1+1) #[.bool false] 4 ((W.setCell ⟨k.W0.heap.size+1,0,none⟩ (.slice none 0 0)).setCell ⟨k.W0.heap.size+1+1,0,none⟩ (.bool false)):=h39.set 0 (.bool false);have hkd:((W.setCell ⟨k.W0.heap.size+1,0,none⟩ (.slice none 0 0)).setCell ⟨k.W0.heap.size+1+1,0,none⟩ (.bool false)).heap[D]?=some (Obj.deferred (some [])):=(hot D (by omega) (by omega)).trans HKD;have hvs:VS (k.at gp rb rc is) ((W.setCell ⟨k.W0.heap.size+1,0,none⟩ (.slice none 0 0)).setCell ⟨k.W0.heap.size+1+1,0,none⟩ (.bool false)):=HV1.out.same HO (by rw[show(k.at gp rb rc is).L0=k.W0.heap.size from hLW];exact hb9) (hot _ (by show gp≠_;omega) (by show gp≠_;omega)) (hot _ (by show rb≠_;omega) (by show rb≠_;omega));have hbt:=HB1.out.low hb9 nL;clear h39 hot hb9;generalize(W.setCell ⟨k.W0.heap.size+1,0,none⟩ (.slice none 0 0)).setCell ⟨k.W0.heap.size+1+1,0,none⟩ (.bool false)=WZ at *;refine⟨by simp,.inl ⟨_,_,rfl,run_takeDeferred hkd,?_⟩⟩;have hlow:∀o,Below w3.heap.size WZ (WZ.putObj D o):=λo=>⟨rfl,rfl,rfl,by simp,λb hb=>World.putObj_heap_other (by omega)⟩
  refine⟨_,Mr rfl _ _ (k.W0.heap.size+1) (k.W0.heap.size+1+1) (.slice none 0 0) false rfl rfl (((hlow _).cell (p:=⟨k.W0.heap.size+1,0,none⟩) (by show k.W0.heap.size+1<_;omega)).trans (hk2.cell rfl)) (((hlow _).cell (p:=⟨k.W0.heap.size+1+1,0,none⟩) (by show k.W0.heap.size+1+1<_;omega)).trans (hk3.cell rfl)),[],none,0,false,rfl,⟨λe=>(by cases e),λ_=>⟨rfl,HNO⟩⟩,SliceC.nil,λe he=>(by cases he),?_,?_,hbt.low (hlow _) (by omega)⟩
  .exact(hvs.low HO (hlow _) hL3 hgp3 hrb3).fm
  .exact(hvs.low HO (hlow _) hL3 hgp3 hrb3).ow
 .rintro D pre W hD hSp⟨pre',x,h1,h2,h3,h4,h5,h6,h7,h8,h9⟩hKD
  have HBE:Hid (Best (rkV k.x) (Bc k.x k.y k.b) (okV k.x k.ci k.y k.b) x.l):=by
   have hb:=cX HP.out.hv k.ci k.y HP.out.hb HC.out.gs.gr HC.out.gs.mem (f:=(Bc k.x k.y k.b).length+1) (by omega);refine hb.1 _ ?_;have hS2:pre.map (·.l) <+: Dy (Ci k.x k.ci k.y k.b) ((Bc k.x k.y k.b).length+1) [[]] gs:=hSp;obtain⟨z,hz⟩:=hS2;rw[h1,List.map_append,List.append_assoc]at hz;rw[<-hz,List.find?_eq_some_iff_append];refine⟨h3,_,z,rfl,λa ha=>?_⟩;obtain⟨y,hy,rfl⟩:=List.mem_map.1 ha;rw[h2 y hy];rfl
  have HT:=iH h4;have HV1:=iH h5;have HB1:=iH h6;have H21:=iH h7;have H31:=iH h8;have HKD:=iH hKD;clear h1 h2 h3 h4 h5 h6 h7 h8 hSp hKD;refine wpIn_wide.2 ?_;go_wp2_with fail;refine⟨by simp,.inl ⟨_,_,rfl,run_takeDeferred HKD,?_⟩⟩;have hlow:∀o,Below w3.heap.size W (W.putObj D o):=λo=>⟨rfl,rfl,rfl,by simp,λb hb=>World.putObj_heap_other (by omega)⟩
  refine⟨_,Mr rfl _ _ (k.W0.heap.size+1) (k.W0.heap.size+1+1) x.v true rfl rfl (((hlow _).cell (p:=⟨k.W0.heap.size+1,0,none⟩) (by show k.W0.heap.size+1<_;omega)).trans (H21.out.cell rfl)) (((hlow _).cell (p:=⟨k.W0.heap.size+1+1,0,none⟩) (by show k.W0.heap.size+1+1<_;omega)).trans (H31.out.cell rfl)),x.l,x.a,x.c,true,rfl,⟨λ_=>HBE.out,λe=>(by cases e)⟩,?_,HT.out.2.1,?_,?_,HB1.out.low (hlow _) (by omega)⟩
  .exact(sV _ HT HKD rfl).1
  .exact(HV1.out.low HO (hlow _) hL3 hgp3 hrb3).fm
  .exact(HV1.out.low HO (hlow _) hL3 hgp3 hrb3).ow
end Go.Proofs.YtpidfnfilnkhkaaGreat
