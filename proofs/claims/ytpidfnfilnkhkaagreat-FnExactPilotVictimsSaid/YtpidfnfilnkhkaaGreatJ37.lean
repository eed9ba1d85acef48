import Derived.Test.YtpidfnfilnkhkaaGreatJ36
import Derived.Shelf.SlSortCmp.NoneTotal
import Derived.Sort.Grow
set_option maxHeartbeats 2000000
set_option maxRecDepth 100000
namespace Go.Proofs.YtpidfnfilnkhkaaGreat
open Go.RowKit Tryz
def LstC:En (List Nat):=λlo w f l=>∃(a:OA)(c:Nat),f 0=some (.slice a l.length c)/\SliceC IntC 1 lo w a (plI l)
theorem LstC.holds:Holds LstC 1:=by
 rintro lo lo' w w' f g l h k hl⟨a,c,q0,q1⟩;exact⟨a,c,(h 0 (by omega)).trans q0,q1.keep IntC.holds k hl⟩
def LsV(lo:Nat)(w:World)(vs:List Value)(ls:List (List Nat)):Prop :=
 vs.length=ls.length/\∀(j:Nat) l,ls[j]?=some l->∃(a:OA)(c:Nat),vs[j]?=some (.slice a l.length c)/\SliceC IntC 1 lo w a (plI l)
theorem LsV.nil(lo:Nat)(w:World):LsV lo w [] []:=⟨rfl,λj l h=>by simp at h⟩
theorem LsV.keep{lo lo':Nat}{w w':World}{vs:List Value}{ls:List (List Nat)}(h:LsV lo w vs ls)(k:Keeps lo w w')(hl:lo'<=lo):LsV lo' w' vs ls :=
 ⟨h.1,λj l hj=>by
  obtain⟨a,c,h1,h2⟩:=h.2 j l hj
  exact⟨a,c,h1,h2.keep IntC.holds k hl⟩⟩
theorem LsV.snoc{lo:Nat}{w:World}{vs:List Value}{ls:List (List Nat)}(h:LsV lo w vs ls){l:List Nat}{a:OA}{c:Nat}(hl:SliceC IntC 1 lo w a (plI l)):LsV lo w (vs++[.slice a l.length c]) (ls++[l]):=by
 refine⟨by simp[h.1],λj x hj=>?_⟩;by_cases hlt:j<ls.length
 .rw[List.getElem?_append_left hlt]at hj
  obtain⟨a',c',h1,h2⟩:=h.2 j x hj;exact⟨a',c',by rw[List.getElem?_append_left (by rw[h.1];exact hlt)];exact h1,h2⟩
 .rw[List.getElem?_append_right (by omega)]at hj
  have h9:=Ac hj;have hje:j=ls.length:=by simp at h9;omega
  subst hje;simp at hj;subst hj;exact⟨a,c,by rw[<-h.1];simp,hl⟩
theorem LsV.one{lo:Nat}{w:World}{vs:List Value}{ls:List (List Nat)}(h:LsV lo w vs ls):∀v∈vs,v.oneCell'=true:=by
 intro v hv;obtain⟨j,hj⟩:=List.getElem?_of_mem hv;obtain⟨l,hl⟩:∃l,ls[j]?=some l:=⟨ls[j]'(by rw[<-h.1];exact Ac hj),gE _⟩;obtain⟨a,c,h1,_⟩:=h.2 j l hl;rw[hj]at h1;cases h1
 rfl
theorem Xu{base:Nat}{w:World}{v:Value}{vs:List Value}{ls:List (List Nat)}(h:w.ownsRow base 68 1 v ls.length vs)(hv:LsV base w vs ls)(hm:ls.length<=maxLen):∃(a:OA)(c:Nat),v=.slice a ls.length c/\SliceC LstC 1 base w a ls:=by
 rcases h.2 with⟨hv0,h0⟩|⟨g,cap,cur,hv0,hb,hg,_⟩
 .have:ls=[]:=List.length_eq_zero_iff.1 h0
  subst this;exact⟨none,0,hv0,SliceC.nil⟩
 .subst hv0
  refine⟨_,cap,rfl,hm,.inr ⟨g,0,rfl,⟨hb,λ_ p=>h.frozenAt p⟩,(Array.getElem?_eq_some_iff.1 hg).1,λj l hj=>?_⟩⟩;obtain⟨a,c,h1,h2⟩:=hv.2 j l hj;have hlt:=Ac hj;have h3:=h.cellAt j (by omega);refine⟨a,c,?_,h2⟩;simp only[Nat.mul_one,Nat.add_zero,Nat.zero_add];rw[h3,h1]
theorem iS(l:List Nat)(a:OA)(c lo e:Nat)(w:World)(h:SliceC IntC 1 lo w a (plI l))(hs:l.length<=1048576) :
  Calls prog 172 #[.slice a l.length c,.int .i64 ((e:Nat):Int)] w λen w'=>∃r:Int,en=.returned (.int .i64 r)/\(0<=r↔e∈l)/\Below w.heap.size w w':=by
 have HI:=iH h;clear h;go_enter func172,ntmps172
 go_wp2
 go_loopw [8] (λi wr=>∃k:Nat,k<=l.length/\i=.int .i64 ((k:Nat):Int)/\Hid (e∉l.take k)/\Below w.heap.size w wr) (λi _=>l.length-(intOf i).toNat)
 case atStart=>exact⟨0,zL,rfl,by show _∉_;simp,Below.refl _ _⟩
 case round =>
  obtain⟨k,hk,rfl,HN,hB⟩:=hrel;by_cases hlt:k<l.length
  .obtain⟨t,ht⟩:=gXe hlt
   obtain⟨b,o,rfl,_,_,hc⟩:=(HI.out.below IntC.holds hB nL).at (Ro ht);have h9:_=_:=hc;simp only[Nat.mul_one,Nat.add_zero]at h9;have i1:(k:Int)<(l.length:Int):=by omega
   by_cases he:e=t
   .have HM:Hid (e∈l):=by rw[he];exact List.mem_of_getElem? ht
    subst he;clear hc ht HN
    go_wp2
    go_ret;exact⟨_,rfl,⟨λ_=>HM.out,λ_=>by omega⟩,hB⟩
   .have HN2:Hid (e∉l.take (k+1)):=by
     show _∉_
     rw[List.take_add_one,ht,List.mem_append];intro h8;rcases h8 with h8|h8
     .exact HN.out h8
     .exact he (by simpa using h8)
    have n1:¬((e:Nat):Int)=((t:Nat):Int):=by omega
    have n2:(((e:Nat):Int)==((t:Nat):Int))=false:=by simpa using n1
    clear hc ht HN he
    go_wp2
    go_roundw
    case rel=>exact⟨k+1,by omega,by go_num,HN2,hB⟩
    case measure=>simp[intOf];omega
  .have hke:k=l.length:=by omega
   subst hke;have HM:Hid (e∉l):=by have h9:=HN.out;rwa [List.take_length]at h9
   have i1:¬(l.length:Int)<(l.length:Int):=by omega
   clear HN
   go_wp2
   go_ret;exact⟨_,rfl,⟨λh=>by omega,λh=>absurd h HM⟩,hB⟩
theorem Wz(l:List Nat)(a:OA)(c lo e:Nat)(w:World)(h:SliceC IntC 1 lo w a (plI l))(hs:l.length<=1048576) :
  Calls prog 146 #[.slice a l.length c,.int .i64 ((e:Nat):Int)] w λen w'=>en=.returned (.bool (l.contains e))/\Below w.heap.size w w':=by
 go_enter func146,ntmps146;go_wp2_with fail;refine(iS l a c lo e w h hs).mono ?_;rintro en w1⟨r,rfl,hr,hb⟩;have HR:Hid (decide (0<=r)=l.contains e):=by
  show _=_
  rw[Bool.eq_iff_iff];simpa using hr
 clear hr h;by_cases h0:0<=r
 .have HQ:Hid (l.contains e=true):=by show _=_;rw[<-HR.out];simpa using h0
  go_wp2
  go_ret;exact⟨Ab (by first|exact HQ.out.symm|(rw[HQ.out];simpa using h0)),hb⟩
 .have HQ:Hid (l.contains e=false):=by show _=_;rw[<-HR.out];simpa using h0
  go_wp2
  go_ret;exact⟨Ab (by first|exact HQ.out.symm|(rw[HQ.out];simpa using h0)),hb⟩
theorem kH(l:List Nat)(a:OA)(c lo:Nat)(w:World)(h:SliceC IntC 1 lo w a (plI l))(hs:l.length<=1000) :
  Calls prog 149 #[.slice a l.length c] w λe w'=>∃v,e=.returned v/\w'.ownsRow w.heap.size 3 1 v l.length (inV (plI l))/\Below w.heap.size w w':=by
 obtain⟨i0,hi,hz0,hz1,hz2⟩:=info_parts Fl;have q22:∀(w:World)(a:OA)(n c n' c':Nat),(binOp .eql 68 (.slice a n c) (.slice none n' c')).run prog w=.ok (.bool a.isNone) w:=λw a n c n' c'=>Lib.run_eql_slice_nil w _ _ a n c n' c' underlying68
 obtain⟨p1,p2,p3,p4⟩:=Nm (c:=c) h
 cases a with
 |none =>
  have hl:l.length=0:=p1 rfl;have hl2:l=[]:=List.length_eq_zero_iff.1 hl;subst hl2;clear p1 p2 p3 p4 h;go_enter func149,ntmps149
  go_wp2
  go_ret;exact⟨_,rfl,World.ownsRow_nil _ _ _ _,Below.refl _ _⟩
 |some ad =>
  have HS:Hid (∀j u,(inV (plI l))[j]?=some u->w.cell? (ad.add j)=some u):=p3 ad rfl;have H4:=iH p4;clear p1 p2 p3 p4 h;go_enter func149,ntmps149;go_wp2_with(at_builtin;refine wpList_append_own _ rfl _ _ 68 rfl w.heap.size 3 i0 _ 1 8 underlying68 hi hz0 hz1 hz2 rfl (by decide) _ _ _ rfl (World.ownsRow_made w #[] 0 nL (zL) rfl) ad l.length _ (inV (plI l)) rfl (by simp) (λj u hj=>Lib.cell?_alloc_some _ (HS j u hj)) H4 (by unfold maxLen;omega) (by omega) (by simp) ?_;intro v' w1 hown hgrow hnil);go_ret;exact⟨v',rfl,by simpa using hown,((Below.refl _ w).alloc nL _).grown hgrow (by simp) (by intro k hk;cases hk;exact Nat.le_refl _)⟩
structure KpG (G:Nat->Prop) (w w':World):Prop where
 os:w'.os=w.os
 tape:w'.tape=w.tape
 output:w'.output=w.output
 size:w.heap.size<=w'.heap.size
 block:∀k,k<w.heap.size->¬G k->w'.heap[k]?=w.heap[k]?
theorem KpG.refl(G:Nat->Prop)(w:World):KpG G w w:=⟨rfl,rfl,rfl,Nat.le_refl _,λ_ _ _=>rfl⟩
theorem KpG.trans{G:Nat->Prop}{a b c:World}(h:KpG G a b)(k:KpG G b c):KpG G a c :=
 ⟨k.os.trans h.os,k.tape.trans h.tape,k.output.trans h.output,lT h.size k.size,λi hi hp=>(k.block i (lL hi h.size) hp).trans (h.block i hi hp)⟩
theorem KpG.of_below{G:Nat->Prop}{w w':World}(h:Below w.heap.size w w'):KpG G w w':=⟨h.os,h.tape,h.output,h.size,λk hk _=>h.block k hk⟩
theorem KpG.cell{G:Nat->Prop}{w w':World}(h:KpG G w w'){a:Addr}(ha:a.block<w.heap.size)(hG:¬G a.block):w'.cell? a=w.cell? a:=World.cell?_of_block (w:=w) (h.block a.block ha hG)
def Gd(l:List Nat):Nat->List (Nat×Nat)
 |0=>[]
 |k+1=>(k,l.getD k 0)::Gd l k
theorem Kq(l:List Nat):∀k,(Gd l k).length=k
 |0=>rfl
 |k+1=>by simp[Gd,Kq l k]
abbrev DnS(l:List Nat):Type:={s:Nat×Nat // s.2∈l}
abbrev yA(s:Nat×Nat):Array Value:=#[.int .i64 ((s.1:Nat):Int),.int .i64 ((s.2:Nat):Int)]
theorem aJ(a:OA)(n c:Nat)(w:World) :
  Calls prog 145 #[.slice a n c] w λe w'=>e=.returned (.func (.func 171) #[] #[.pointer (some ⟨w.heap.size,0,none⟩)])/\w'=w.alloc (.cells #[.slice a n c] 68):=by
 go_enter func145,ntmps145
 go_wp2
 go_ret;exact⟨rfl,rfl⟩
theorem Uo(G:Nat->Prop)(l:List Nat)(a:OA)(c lo Bx:Nat)(w:World)(hc:w.cell? ⟨Bx,0,none⟩=some (.slice a l.length c))(h:SliceC IntC 1 lo w a (plI l))(hG:¬G Bx)(hl:∀b o,a=some ⟨b,o,none⟩->¬G b)(hs:l.length<=1000) :
  SeqStopsK Fence.wide 5 prog 171 #[.pointer (some ⟨Bx,0,none⟩)] (λs:DnS l=>yA s.1) (KpG G) (λys=>ys.map (·.1)=Gd l l.length) (λpre=>pre.map (·.1) <+: Gd l l.length) l.length w:=by
 intro yl J Jx W hbW _ _ hY h0;refine callsIn_wide.2 ?_;have hcW:W.cell? ⟨Bx,0,none⟩=some (.slice a l.length c):=(hbW.cell (p:=⟨Bx,0,none⟩) (block_lt_of_cell hc)).trans hc;have HI:=iH (h.below IntC.holds hbW nL);have HY:=iH hY;have H0:=iH h0;clear h hbW hY h0 hc;show Calls prog 171 #[.func (.yield yl) #[] #[],.pointer (some ⟨Bx,0,none⟩)] W _
 go_enter func171,ntmps171
 go_wp2
 go_loopw [3] (λi wr=>∃(k:Nat)(pre:List (DnS l)),k<=l.length/\i=.int .i64 (((k:Nat):Int)-1)/\Hid (Gd l l.length=pre.map (·.1)++Gd l k)/\Hid (J pre wr)/\KpG G W wr) (λi _=>(intOf i+1).toNat)
 case atStart=>exact⟨l.length,[],Nat.le_refl _,by go_num,rfl,H0,KpG.refl _ _⟩
 case round =>
  obtain⟨k,pre,hk,rfl,HP,HJ,hK⟩:=hrel;have hcr:wr.cell? ⟨Bx,0,none⟩=some (.slice a l.length c):=(hK.cell (a:=⟨Bx,0,none⟩) (block_lt_of_cell hcW) hG).trans hcW
  cases k with
  |zero =>
   go_wp2_with fail
   go_end0
   exact⟨⟨_,rfl⟩,Or.inl ⟨pre,by have h9:=HP.out;simpa[Gd]using h9.symm,HJ⟩⟩
  | succ j =>
   have hj:(((j+1:Nat):Int)-1)=((j:Nat):Int):=by omega
   rw[hj];obtain⟨t,ht⟩:=gXe hk;have hgd:l.getD j 0=t:=by rw[List.getD_eq_getElem?_getD,ht];rfl
   obtain⟨b,o,rfl,q1,q2,hv⟩:=HI.out.at (Ro ht);have h9:_=_:=hv;simp only[Nat.mul_one,Nat.add_zero]at h9;have h8:=(hK.cell (block_lt_of_cell h9) (hl b o rfl)).trans h9;have hlen:pre.length<l.length:=by
    have h7:=congrArg List.length HP;rw[List.length_append,List.length_map,Kq,Kq]at h7;omega
   have htm:t∈l:=List.mem_of_getElem? ht;have HP2:Hid (Gd l l.length=((pre++[(⟨(j,t),htm⟩:DnS l)]).map (·.1))++Gd l j):=by
    show _=_
    rw[HP.out,Gd,hgd,List.map_append,List.append_assoc];rfl
   have i1:(j:Int)<(l.length:Int):=by omega
   obtain⟨fn,tmps,assign,body,hy,hR⟩:=HY.out pre ⟨(j,t),htm⟩ wr HJ hlen;dsimp only[yA]at hy
   have hR':=hR.mono (R':=λe W'=>∃q,e=.returned (.bool q)/\Hid ((q=true/\J (pre++[⟨(j,t),htm⟩]) W'/\KpG G wr W')\/(q=false/\Jx (pre++[⟨(j,t),htm⟩]) W'))) (by
    rintro e W' (⟨h1,h2,h3⟩|⟨h1,h2⟩)
    .exact⟨true,h1,Or.inl ⟨rfl,h2,h3⟩⟩
    .exact⟨false,h1,Or.inr ⟨rfl,h2⟩⟩)
   clear hR hv h9 ht HY HI;refine(wpIn_wide (n:=5)).1 ?_
   gi_wp2_with (refine hR'.mono ?_;rintro e W' ⟨q,rfl,hq⟩;cases q)
   .have HQ:Hid (Jx (pre++[⟨(j,t),htm⟩]) W'):=by
     rcases hq.out with h|h
     .cases h.1
     .exact h.2
    refine bodyPost_ret (results_none rfl _ _ _) rfl ?_;exact⟨⟨_,rfl⟩,Or.inr ⟨_,⟨Gd l j,HP2.out.symm⟩,HQ⟩⟩
   .have HQ:Hid (J (pre++[⟨(j,t),htm⟩]) W'/\KpG G wr W'):=by
     rcases hq.out with h|h
     .exact h.2
     .cases h.1
    refine⟨⟨j,_,by omega,rfl,HP2,HQ.out.1,hK.trans HQ.out.2⟩,?_⟩;simp only[intOf];omega
theorem sN:∀a b:List Nat,Cf ltI (plI a) (plI b)=Cf ltP a b
 |[],[]=>rfl
 |[],_::_=>rfl
 |_::_,[]=>rfl
 | a::x,b::y=>by
  have h:=sN x y;simp only[plI,List.map_cons,Cf]at h⊢;rw[h];by_cases e:a=b
  .subst e
   simp
  .have e2:¬((a:Nat):Int)=((b:Nat):Int):=by omega
   rw[if_neg e,if_neg e2];simp[ltI,ltP]
theorem zD(a b:List Nat):decide (It (plI a) (plI b)<0)=Cf ltP a b:=by
 rw[dQ,Ri,sN]
theorem qY{a b:List Nat}(h1:Cf ltP a b=false)(h2:Cf ltP b a=false):a=b:=by
 induction a generalizing b with
 |nil=>cases b with
  |nil=>rfl
  |cons y b=>simp[Cf]at h1
 | cons x a ih=>cases b with
  |nil=>simp[Cf]at h2
  | cons y b =>
   simp only[Cf]at h1 h2;by_cases e:x=y
   .subst e
    simp only[if_true]at h1 h2;rw[ih h1 h2]
   .rw[if_neg e]at h1
    rw[if_neg (λh=>e h.symm)]at h2;simp[ltP]at h1 h2;omega
theorem kD{xs ys:List (List Nat)}(hp:ys.Perm xs)(hs:ys.Pairwise λa b=>Cf ltP b a=false)(hm:(xs.mergeSort λa b=>!Cf ltP b a).Pairwise λa b=>Cf ltP b a=false):ys=xs.mergeSort λa b=>!Cf ltP b a :=
 List.Perm.eq_of_pairwise (λ_ _ _ _ h1 h2=>qY h2 h1) hs hm (hp.trans (List.mergeSort_perm _ _).symm)
theorem wZ{srv:List Nat->List Nat->Bool}{ls gs ys:List (List Nat)}(hp:ys.Perm (El srv ls gs))(hs:ys.Pairwise λa b=>Cf ltP b a=false):ys=Gp srv ls gs :=
 kD hp hs (Tg srv ls gs)
theorem eG(l:List Nat):∀k,k<=l.length->(Gd l k).map (·.2)=(l.take k).reverse
 |0,_=>by simp[Gd]
 |k+1,h=>by
  have e:l.getD k 0=l[k]:=by rw[List.getD_eq_getElem?_getD,gE (by omega)];rfl
  rw[Gd,List.map_cons,eG l k (by omega),List.take_succ_eq_append_getElem (by omega),List.reverse_append];simp only[e];rfl
theorem Ug(l:List Nat):(Gd l l.length).map (·.2)=l.reverse:=by
 rw[eG l _ nL,List.take_length]
open Go.Shelf Tryz
def Yq:Go.Shelf.Ren:=⟨fun|6=>151|15=>180|14=>179|28=>198|29=>199|20=>190|21=>191|22=>192|23=>193|24=>194|25=>195|26=>196|27=>197|46=>208|47=>209|48=>210|49=>211|50=>212|57=>220|n=>n,fun|22=>109|24=>68|25=>209|3=>3|39=>224|0=>0|53=>250|55=>252|4=>4|46=>244|45=>243|50=>105|5=>5|9=>9|66=>268|70=>272|76=>278|77=>92|n=>n,fun|n=>n⟩
theorem xR:Go.Proofs.SlLaysF.n6 prog Yq:={
 mixed:=by kernel_rfl
 f6:=⟨Tryz.f151.name,by decide,func151.trans (congrArg some (by kernel_rfl))⟩
 f14:=⟨Tryz.f179.name,by decide,func179.trans (congrArg some (by kernel_rfl))⟩
 f15:=func180.trans (congrArg some (by kernel_rfl))
 f20:=⟨Tryz.f190.name,by decide,func190.trans (congrArg some (by kernel_rfl))⟩
 f21:=⟨Tryz.f191.name,by decide,func191.trans (congrArg some (by kernel_rfl))⟩
 f22:=⟨Tryz.f192.name,by decide,func192.trans (congrArg some (by kernel_rfl))⟩
 f23:=⟨Tryz.f193.name,by decide,func193.trans (congrArg some (by kernel_rfl))⟩
 f24:=⟨Tryz.f194.name,by decide,func194.trans (congrArg some (by kernel_rfl))⟩
 f25:=⟨Tryz.f195.name,by decide,func195.trans (congrArg some (by kernel_rfl))⟩
 f26:=⟨Tryz.f196.name,by decide,func196.trans (congrArg some (by kernel_rfl))⟩
 f27:=⟨Tryz.f197.name,by decide,func197.trans (congrArg some (by kernel_rfl))⟩
 f28:=func198.trans (congrArg some (by kernel_rfl))
 f29:=func199.trans (congrArg some (by kernel_rfl))
 f46:=⟨Tryz.f208.name,by decide,func208.trans (congrArg some (by kernel_rfl))⟩
 f47:=func209.trans (congrArg some (by kernel_rfl))
 f48:=func210.trans (congrArg some (by kernel_rfl))
 f49:=⟨Tryz.f211.name,by decide,func211.trans (congrArg some (by kernel_rfl))⟩
 f50:=⟨Tryz.f212.name,by decide,func212.trans (congrArg some (by kernel_rfl))⟩
 f57:=⟨Tryz.f220.name,by decide,func220.trans (congrArg some (by kernel_rfl))⟩
 t0:=underlying0
 a0:=Tryz.isAgg0
 z0:=Tryz.sizeOf0
 v0:=Tryz.zeroValue0
 t3:=underlying3
 a3:=Tryz.isAgg3
 z3:=Tryz.sizeOf3
 v3:=Tryz.zeroValue3
 t4:=underlying4
 a4:=Tryz.isAgg4
 z4:=Tryz.sizeOf4
 v4:=Tryz.zeroValue4
 t5:=underlying5
 a5:=Tryz.isAgg5
 z5:=Tryz.sizeOf5
 v5:=Tryz.zeroValue5
 t9:=underlying9
 a9:=Tryz.isAgg9
 z9:=Tryz.sizeOf9
 v9:=Tryz.zeroValue9
 t22:=underlying109
 a22:=Tryz.isAgg109
 z22:=Tryz.sizeOf109
 v22:=Tryz.zeroValue109
 a24:=Tryz.isAgg68
 z24:=Tryz.sizeOf68
 t25:=underlying209
 a25:=Tryz.isAgg209
 z25:=Tryz.sizeOf209
 v25:=Tryz.zeroValue209
 t39:=underlying224
 a39:=Tryz.isAgg224
 z39:=Tryz.sizeOf224
 v39:=Tryz.zeroValue224
 t45:=underlying243
 a45:=Tryz.isAgg243
 z45:=Tryz.sizeOf243
 v45:=Tryz.zeroValue243
 t46:=underlying244
 a46:=Tryz.isAgg244
 z46:=Tryz.sizeOf244
 v46:=Tryz.zeroValue244
 t50:=underlying105
 a50:=Tryz.isAgg105
 z50:=Tryz.sizeOf105
 v50:=Tryz.zeroValue105
 t53:=underlying250
 a53:=Tryz.isAgg250
 z53:=Tryz.sizeOf250
 v53:=Tryz.zeroValue250
 t55:=underlying252
 a55:=Tryz.isAgg252
 z55:=Tryz.sizeOf252
 v55:=Tryz.zeroValue252
 t66:=underlying268
 a66:=Tryz.isAgg268
 z66:=Tryz.sizeOf268
 v66:=Tryz.zeroValue268
 t70:=underlying272
 a70:=Tryz.isAgg272
 z70:=Tryz.sizeOf272
 v70:=Tryz.zeroValue272
 t76:=underlying278
 a76:=Tryz.isAgg278
 z76:=Tryz.sizeOf278
 v76:=Tryz.zeroValue278
 t77:=underlying92
 a77:=Tryz.isAgg92
 z77:=Tryz.sizeOf92
 v77:=Tryz.zeroValue92}
theorem Ob{w:World}{a:Addr}{v:Value}(h:w.cell? a=some v):∃cs t f,w.heap[a.block]?=some (Obj.cells cs t f):=by
 unfold World.cell? at h
 split at h
 .rename_i c t f e
  exact⟨c,t,f,e⟩
 .cases h
theorem Fa{lo:Nat}{w w':World}{a:OA}{l:List Int}(h:SliceC IntC 1 lo w a l)(hs:w.heap.size<=w'.heap.size)(k:∀b o,l≠[]->a=some ⟨b,o,none⟩->lo<=b->b<w.heap.size->(∃cs t f,w.heap[b]?=some (Obj.cells cs t f))->w'.heap[b]?=w.heap[b]?):SliceC IntC 1 lo w' a l:=by
 refine⟨h.1,?_⟩;by_cases hn:l=[]
 .exact .inl hn
 rcases h.2 with h2|⟨b,o,rfl,⟨h1,hf⟩,h2,h3⟩
 .exact .inl h2
 .obtain⟨x,hx⟩:∃x,l[0]?=some x:=⟨l[0]'(List.length_pos_iff.2 hn),gE _⟩
  have e:=k b o hn rfl h1 h2 (Ob (a:=⟨b,_,none⟩) (h3 0 x hx));exact .inr ⟨b,o,rfl,⟨h1,λhp p=>(World.frozen?_of_block (a:=⟨b,p,none⟩) e).trans (hf hp p)⟩,lL h2 hs,λj x hj=>(World.cell?_of_block (w:=w) (a:=⟨b,_,none⟩) e).trans (h3 j x hj)⟩
theorem Md{w w':World}{base:Nat}{e:TypeId}{size n:Nat}{v:Value}{xs:List Value}(h:w.ownsRow base e size v n xs)(hk:∀g,v.ownBlock=some g->(∃cs t f,w.heap[g]?=some (Obj.cells cs t f))->w'.heap[g]?=w.heap[g]?):w'.ownsRow base e size v n xs:=by
 refine⟨h.1,?_⟩;rcases h.2 with h2|⟨g,cap,cur,rfl,hb,hg,h3⟩
 .exact .inl h2
 .exact .inr ⟨g,cap,cur,rfl,hb,(hk g rfl ⟨_,_,_,hg⟩).trans hg,h3⟩
theorem Qw{w:World}{base:Nat}{e:TypeId}{size n g:Nat}{v:Value}{xs:List Value}(h:w.ownsRow base e size v n xs)(hg:v.ownBlock=some g):∃cs t f,w.heap[g]?=some (Obj.cells cs t f):=by
 rcases h.2 with⟨rfl,_⟩|⟨g',cap,cur,rfl,_,h3,_⟩
 .cases hg
 .cases hg
  exact⟨_,_,_,h3⟩
def LsN(N:Nat->Prop)(lo:Nat)(w:World)(vs:List Value)(ls:List (List Nat)):Prop :=
 vs.length=ls.length/\∀(j:Nat) l,ls[j]?=some l->∃(a:OA)(c:Nat),vs[j]?=some (.slice a l.length c)/\SliceC IntC 1 lo w a (plI l)/\∀b o,l≠[]->a=some ⟨b,o,none⟩->¬N b
theorem LsN.nil(N:Nat->Prop)(lo:Nat)(w:World):LsN N lo w [] []:=⟨rfl,λj l h=>by simp at h⟩
theorem LsN.v{N:Nat->Prop}{lo:Nat}{w:World}{vs:List Value}{ls:List (List Nat)}(h:LsN N lo w vs ls):LsV lo w vs ls:=⟨h.1,λj l hj=>by
 obtain⟨a,c,h1,h2,_⟩:=h.2 j l hj
 exact⟨a,c,h1,h2⟩⟩
theorem LsN.go{N N':Nat->Prop}{lo:Nat}{w w':World}{vs:List Value}{ls:List (List Nat)}(h:LsN N lo w vs ls)(hs:w.heap.size<=w'.heap.size)(k:∀b,lo<=b->b<w.heap.size->¬N b->(∃cs t f,w.heap[b]?=some (Obj.cells cs t f))->w'.heap[b]?=w.heap[b]?)(hN:∀b,b<w.heap.size->¬N b->¬N' b):LsN N' lo w' vs ls :=
 ⟨h.1,λj l hj=>by
  obtain⟨a,c,h1,h2,h3⟩:=h.2 j l hj;refine⟨a,c,h1,Fa h2 hs (λb o hn e k1 hb k2=>k b k1 hb (h3 b o (λq=>hn (by rw[q];rfl)) e) k2),λb o hn e=>?_⟩;have hb:b<w.heap.size:=by
   rcases h2.2 with q|⟨b',o',e',_,q,_⟩
   .exact absurd (by simpa using q) hn
   .rw[e]at e';cases e';exact q
  exact hN b hb (h3 b o hn e)⟩
theorem LsN.snoc{N:Nat->Prop}{lo:Nat}{w:World}{vs:List Value}{ls:List (List Nat)}(h:LsN N lo w vs ls){l:List Nat}{a:OA}{c:Nat}(hl:SliceC IntC 1 lo w a (plI l))(hN:∀b o,l≠[]->a=some ⟨b,o,none⟩->¬N b):LsN N lo w (vs++[.slice a l.length c]) (ls++[l]):=by
 refine⟨by simp[h.1],λj x hj=>?_⟩;by_cases hlt:j<ls.length
 .rw[List.getElem?_append_left hlt]at hj
  obtain⟨a',c',h1,h2,h3⟩:=h.2 j x hj;exact⟨a',c',by rw[List.getElem?_append_left (by rw[h.1];exact hlt)];exact h1,h2,h3⟩
 .rw[List.getElem?_append_right (by omega)]at hj
  have h9:=Ac hj;have hje:j=ls.length:=by simp at h9;omega
  subst hje;simp at hj;subst hj;exact⟨a,c,by rw[<-h.1];simp,hl,hN⟩
theorem aK{α:Type}[Inhabited α]{enc:α->Value}{w:World}{g n:Nat}{os:Array Obj}{cur:Array Value}{e:TypeId}{fr:Nat×Nat}(d:Array α)(hb:w.heap[g]?=some (.cells cur e fr)) :
  (Sort.grow (Sort.putRow enc (Sort.ahead w n) g 0 d) os).heap[g]?=some (.cells (Sort.putCells enc 0 d cur) e fr):=by
 have hg:g<w.heap.size:=(Array.getElem?_eq_some_iff.1 hb).1;rw[Sort.heap_grow_old _ _ (by simpa using hg)];simp[Sort.putRow,Sort.mapBlock,Sort.ahead,Array.getElem?_modify,hb,Sort.onCells]
theorem Fp{α:Type}[Inhabited α]{enc:α->Value}{w:World}{g n:Nat}{os:Array Obj}(d:Array α):w.grownBy (Sort.grow (Sort.putRow enc (Sort.ahead w n) g 0 d) os) (some g):=by
 refine⟨rfl,rfl,rfl,by simp,λk hk hne=>?_⟩;rw[Sort.heap_grow_old _ _ (by simpa using hk)];have:g≠k:=λe=>hne (by rw[e])
 simp[Sort.putRow,Sort.mapBlock,Sort.ahead,Array.getElem?_modify,this]
theorem Lr{α:Type}[Inhabited α]{enc:α->Value}{w:World}{base g cap n k:Nat}{e:TypeId}{os:Array Obj}{cur:Array Value}{d:Array α}(hd:d.size=k)(hbase:base<=g)(hb:w.heap[g]?=some (.cells cur e (0,0)))(h1:k<=cap)(h2:cap<=maxLen)(h3:cur.size=cap*1) :
  (Sort.grow (Sort.putRow enc (Sort.ahead w n) g 0 d) os).ownsRow base e 1 (.slice (some ⟨g,0,none⟩) k cap) k (d.toList.map enc):=by
 subst hd;refine⟨by simp,.inr ⟨g,cap,_,rfl,hbase,aK _ hb,h1,h2,by simp[Sort.putCells,h3],?_⟩⟩;rw[Nat.mul_one];apply List.ext_getElem?;intro j;by_cases hj:j<d.size
 .rw[List.getElem?_take_of_lt hj,Array.getElem?_toList]
  simp[Sort.putCells,hj,show j<cur.size by omega]
 .rw[List.getElem?_take_eq_none (by omega),List.getElem?_eq_none (by simp;omega)]
theorem zM{a b c:List Nat}(h1:Cf ltP a b=false)(h2:Cf ltP b c=false):Cf ltP a c=false:=by
 have T:=Cr Ji
 cases e:Cf ltP a c with
 |false=>rfl
 |true =>
  cases k:Cf ltP b a with
  |true=>rw[T.tr _ _ _ k e]at h2;cases h2
  |false=>rw[T.tot _ _ h1 k]at e;rw[e]at h2;cases h2
theorem gH{N:Nat->Prop}{base g cap lo:Nat}{ls:List (List Nat)}{vs:List Value}{w:World}(h:w.ownsRow base 68 1 (.slice (some ⟨g,0,none⟩) ls.length cap) ls.length vs)(hN:N g)(hl:LsN N lo w vs ls)(hne:ls≠[])(hs:ls.length<=1000000000000000) :
  Calls prog 151 #[.slice (some ⟨g,0,none⟩) ls.length cap,.func (.func 152) #[] #[]] w λe w'=>e=.returned (.tuple #[])/\w.grownBy w' (some g)/\∃ys us,ys.Perm ls/\(ys.Pairwise λa b=>Cf ltP b a=false)/\w'.ownsRow base 68 1 (.slice (some ⟨g,0,none⟩) ls.length cap) ls.length us/\LsN N lo w' us ys:=by
 obtain⟨m,hm⟩:∃m,ls.length=m+1:=⟨ls.length-1,by have:=List.length_pos_iff.2 hne;omega⟩;rcases h.2 with⟨h1,_⟩|⟨g',cap',cur,h1,hbase,hb,h4,h5,h6,h7⟩
 .cases h1
 cases h1
 have T:=Cr Ji;obtain⟨li,hli⟩:∃f:Fin (m+1)->List Nat,f=λi=>ls.getD i.1 []:=⟨_,rfl⟩
 obtain⟨enc,henc⟩:∃f:Fin (m+1)->Value,f=λi=>vs.getD i.1 undef:=⟨_,rfl⟩
 have hat:∀i:Fin (m+1),∃(a:OA)(c:Nat),enc i=.slice a (li i).length c/\SliceC IntC 1 lo w a (plI (li i))/\∀b o,li i≠[]->a=some ⟨b,o,none⟩->¬N b:=λi=>by
  obtain⟨a,c,q1,q2,q3⟩:=hl.2 i.1 _ (gE (by omega));have e1:li i=ls[i.1]'(by omega):=by
   rw[hli];simp only[List.getD_eq_getElem?_getD];rw[gE (show i.1<ls.length by omega)];rfl
  rw[e1];exact⟨a,c,by rw[henc];simp only[List.getD_eq_getElem?_getD,q1];rfl,q2,q3⟩
 have hone:OneCell enc:=λi=>by
  obtain⟨a,c,q1,_⟩:=hat i;rw[q1];rfl
 have hlt:∀i j,ltOf (λi j=>It (plI (li i)) (plI (li j))) i j=Cf ltP (li i) (li j):=λi j=>zD _ _
 have hO:Go.Sort.SWO (ltOf λi j=>It (plI (li i)) (plI (li j))):=⟨λi=>by rw[hlt];exact T.irr _,λi j k q1 q2=>by rw[hlt]at *;exact T.tr _ _ _ q1 q2,λi j k q1 q2=>by rw[hlt]at *;exact zM q1 q2⟩;have hdl:∀{β:Type} (f:Fin (m+1)->β) (l:List β),l.length=m+1->(∀i,l[i.1]?=some (f i))->(List.finRange (m+1)).map f=l:=λf l q1 q2=>List.ext_getElem (by simp[q1]) λi k1 k2=>by
  have:=q2 ⟨i,by simpa using k1⟩;rw[gE k2,Option.some.injEq]at this;simp[this]
 have hdls:(List.finRange (m+1)).map li=ls:=hdl li ls hm λi=>by rw[hli];simp[List.getD_eq_getElem?_getD,gE (show i.1<ls.length by omega)]
 have hvl:vs.length=m+1:=hl.1.trans hm;have hdv:(List.finRange (m+1)).map enc=vs:=hdl enc vs hvl λi=>by rw[henc];simp[List.getD_eq_getElem?_getD,gE (show i.1<vs.length by omega)]
 have hsz:((List.finRange (m+1)).toArray).size=ls.length:=by simp[hm]
 have hH:Sort.Holds enc w g 0 (List.finRange (m+1)).toArray:=λj hj=>by
  have hj':j<m+1:=by simpa using hj
  refine⟨?_,by simp[World.frozen?,hb]⟩;have q1:(cur.toList.take (ls.length*1))[j]?=((List.finRange (m+1)).map enc)[j]?:=by rw[h7,hdv]
  rw[List.getElem?_take_of_lt (by omega)]at q1;simp only[World.cell?,hb,Nat.zero_add];simp only[Option.isSome_none,Bool.false_eq_true,if_false];rw[<-Array.getElem?_toList,q1];simp[hj']
 have eg:∀args w,(callFunc 152 args).run prog w=.ok (.enter 152 args) w:=enters_of func152 (by kernel_rfl) rfl;have hcm:CmpLays1 prog 152 #[] enc (λi j=>It (plI (li i)) (plI (li j))) g 0 (List.finRange (m+1)).toArray.size w:=λn os dk _ x y=>by
  obtain⟨a,c,q1,q2,q3⟩:=hat x;obtain⟨a',c',k1,k2,k3⟩:=hat y;have hg:w.grownBy (sortWorld enc w g 0 n dk os) (some g):=Fp _;have r1:=Fa q2 hg.size λb o hn e _ hb _=>hg.block b hb (λe9=>q3 b o (λq=>hn (by rw[q];rfl)) e (by cases e9;exact hN))
  have r2:=Fa k2 hg.size λb o hn e _ hb _=>hg.block b hb (λe9=>k3 b o (λq=>hn (by rw[q];rfl)) e (by cases e9;exact hN))
  have hc:=Zy _ _ a a' c c' lo lo _ r1 r2;rw[show(plI (li x)).length=(li x).length from List.length_map _,show(plI (li y)).length=(li y).length from List.length_map _]at hc;rw[q1,k1];refine hc.mono ?_;rintro e w' ⟨rfl,rfl⟩;exact⟨rfl,0,#[],by simp[World.drewN]⟩
 have hS:=Any.slices_SortFunc xR enc hone _ hO 152 #[] g 0 cap (List.finRange (m+1)).toArray w eg hcm hH (Array.getElem?_eq_some_iff.1 hb).1 (by simp;omega);rw[hsz]at hS;have hS2:Calls prog 151 #[.slice (some ⟨g,0,none⟩) ls.length cap,.func (.func 152) #[] #[]] w _:=hS;refine hS2.mono ?_;rintro e w' ⟨rfl,d',n,os,hp,hso,rfl⟩;have hg:w.grownBy (sortWorld enc w g 0 n d' os) (some g):=Fp _;have hd:d'.size=ls.length:=hp.1.trans hsz;have hperm:d'.toList.Perm (List.finRange (m+1)):=by
  have:=hp.2.2;rw[show d'.extract 0 ls.length=d' by rw[<-hd];simp,show(List.finRange (m+1)).toArray.extract 0 ls.length=(List.finRange (m+1)).toArray by rw[hm];simp[List.take_of_length_le]]at this;simpa using this
 refine⟨rfl,hg,d'.toList.map li,d'.toList.map enc,?_,?_,Lr hd hbase hb h4 h5 h6,by simp,λj l hj=>?_⟩
 .have:=hperm.map li
  rwa [hdls]at this
 .rw[List.pairwise_map,List.pairwise_iff_getElem]
  intro i j hi hj hij;have:=hso i j (zL) hij (by simp at hj;omega);rw[hlt]at this;simp at hi hj;simpa[hi,hj]using this
 .rw[List.getElem?_map]at hj
  obtain⟨i,hi,rfl⟩:=Option.map_eq_some_iff.1 hj;obtain⟨a,c,q1,q2,q3⟩:=hat i;exact⟨a,c,by rw[List.getElem?_map,hi,<-q1];rfl,Fa q2 hg.size λb o hn e _ hb _=>hg.block b hb (λe9=>q3 b o (λq=>hn (by rw[q];rfl)) e (by cases e9;exact hN)),q3⟩
theorem fR(p:OA)(c:Nat)(w:World) :
  Calls prog 151 #[.slice p 0 c,.func (.func 152) #[] #[]] w λe w'=>e=.returned (.tuple #[])/\w'=w:=by
 have hS:=AnyF.slices_SortFunc_none (P:=prog) (ρ:=Yq) {xR with} p c (.func (.func 152) #[] #[]) w;exact hS
end Go.Proofs.YtpidfnfilnkhkaaGreat
namespace Go.Proofs.YtpidfnfilnkhkaaGreat
open Go.RowKit Tryz
def Mm(srv:List Nat->List Nat->Bool)(fl g:List Nat)(pre:List (Nat×Nat)):List (List Nat):=((pre.map (·.2)).map λe=>Fv e g).filter λl=>srv l fl
def NoC(g:List Nat)(pre:List (Nat×Nat)):Prop:=∀x∈pre,g.contains x.2=false
theorem nY(srv:List Nat->List Nat->Bool)(fl g:List Nat)(pre:List (Nat×Nat))(x:Nat×Nat):Mm srv fl g (pre++[x])=Mm srv fl g pre++if srv (Fv x.2 g) fl then[Fv x.2 g]else []:=by
 unfold Mm;rw[List.map_append,List.map_append,List.filter_append];simp only[List.map_cons,List.map_nil,List.filter_cons,List.filter_nil]
theorem Xz{srv:List Nat->List Nat->Bool}{ls gs:List (List Nat)}{n:Nat}{g:List Nat}(h:ls[n]?=some g):El srv (ls.take (n+1)) gs=El srv (ls.take n) gs++(((gs.getLast?.getD []).reverse.takeWhile λe=>!g.contains e).map λe=>Fv e g).filter λl=>srv l gs.flatten:=by
 unfold El;rw[List.take_add_one,h,List.flatMap_append];simp
theorem mZ{srv:List Nat->List Nat->Bool}{fl g last:List Nat}(h:NoC g (Gd last last.length)):Mm srv fl g (Gd last last.length)=((last.reverse.takeWhile λe=>!g.contains e).map λe=>Fv e g).filter λl=>srv l fl:=by
 unfold Mm;rw[Ug];have e:(last.reverse.takeWhile λe=>!g.contains e)=last.reverse:=by
  have h9:=List.takeWhile_append_of_pos (p:=λe=>!g.contains e) (l₁:=last.reverse) (l₂:=[]) (λe he=>by
   rw[<-Ug,List.mem_map]at he;obtain⟨x,hx,rfl⟩:=he;rw[h x hx]
   rfl)
  simpa using h9
 rw[e]
theorem mW{srv:List Nat->List Nat->Bool}{fl g last:List Nat}{pre:List (Nat×Nat)}{x:Nat×Nat}(hp:pre++[x] <+: Gd last last.length)(h:NoC g pre)(hx:g.contains x.2=true):Mm srv fl g pre=((last.reverse.takeWhile λe=>!g.contains e).map λe=>Fv e g).filter λl=>srv l fl:=by
 obtain⟨t,ht⟩:=hp;have e2:last.reverse=pre.map (·.2)++(x.2::t.map (·.2)):=by
  rw[<-Ug,<-ht];simp
 unfold Mm;have e:(last.reverse.takeWhile λe=>!g.contains e)=pre.map (·.2):=by
  rw[e2,List.takeWhile_append_of_pos (by
   intro a ha;obtain⟨y,hy,rfl⟩:=List.mem_map.1 ha;rw[h y hy]
   rfl),List.takeWhile_cons_of_neg (by rw[hx];simp),List.append_nil]
 rw[e]
theorem rA(srv:List Nat->List Nat->Bool)(fl g:List Nat)(pre:List (Nat×Nat)):(Mm srv fl g pre).length<=pre.length:=by
 unfold Mm;exact lT (List.length_filter_le _ _) (by simp)
theorem Ui(srv:List Nat->List Nat->Bool)(ls gs:List (List Nat)):(El srv ls gs).length<=ls.length*(gs.getLast?.getD []).length:=by
 unfold El
 induction ls with
 |nil=>simp
 | cons g ls ih =>
  rw[List.flatMap_cons,List.length_append,List.length_cons,Nat.succ_mul];have h9:((((gs.getLast?.getD []).reverse.takeWhile λe=>!g.contains e).map λe=>Fv e g).filter λl=>srv l gs.flatten).length<=(gs.getLast?.getD []).length:=by
   refine lT (List.length_filter_le _ _) ?_;rw[List.length_map];exact lT (List.takeWhile_sublist _).length_le (by simp)
  omega
theorem NoC.snoc{g:List Nat}{pre:List (Nat×Nat)}{x:Nat×Nat}(h:NoC g pre)(hx:g.contains x.2=false):NoC g (pre++[x]):=by
 intro y hy;rcases List.mem_append.1 hy with hy|hy
 .exact h y hy
 .rw[List.mem_singleton.1 hy];exact hx
structure LoS (k:VC) (w:World) (B3 A L9:Nat) (ag:OA) (ng cg:Nat) (ra:OA) (rc:Nat) (fl:List Nat) (Ds:List Nat) (v:Value) (acc:List (List Nat)) (W:World):Prop where
 vs:VS k W
 bt:Bt2 k.G k.m4 w W
 b3:Blk B3 (Co k ag ng cg) 112 W
 ba:Blk A #[.slice ra fl.length rc] 68 W
 b9:Blk L9 #[v] 109 W
 al:SliceC IntC 1 k.L0 W ra (plI fl)
 ab:plI fl≠[]->∀b o,ra=some ⟨b,o,none⟩->b<L9
 rw:∃vals,W.ownsRow (L9+1) 68 1 v acc.length vals/\LsN (λb=>v.ownBlock=some b\/b=L9) k.L0 W vals acc
 ds:∀D∈Ds,L9<D/\W.heap[D]?=some (Obj.deferred (some []))
 dn:Ds.Pairwise (·≠·)
 or:w.heap.size<=B3/\B3<L9/\w.heap.size<=A/\A<L9
 gb:k.gp<w.heap.size/\k.rb<w.heap.size/\k.L0<=w.heap.size
theorem LoS.own{k:VC}{w:World}{B3 A L9:Nat}{ag:OA}{ng cg:Nat}{ra:OA}{rc:Nat}{fl Ds:List Nat}{v:Value}{acc:List (List Nat)}{W:World}(h:LoS k w B3 A L9 ag ng cg ra rc fl Ds v acc W){b:Nat}(hb:v.ownBlock=some b):L9<b/\b<W.heap.size:=by
 obtain⟨vals,h1,_⟩:=h.rw;exact h1.lt b hb
theorem LoS.bt2{k:VC}{w:World}{B3 A L9:Nat}{ag:OA}{ng cg:Nat}{ra:OA}{rc:Nat}{fl Ds:List Nat}{v:Value}{acc:List (List Nat)}{W W':World}(h:LoS k w B3 A L9 ag ng cg ra rc fl Ds v acc W)(ho:VOk k)(hS:VS k W')(hb:Bt2 k.G k.m4 W W'):LoS k w B3 A L9 ag ng cg ra rc fl Ds v acc W':=by
 obtain⟨o1,o2,o3,o4⟩:=h.or;obtain⟨g1,g2,g3⟩:=h.gb;have e1:=ho.GL;have e2:=ho.mL;have hk:∀b,k.L0<=b->b<W.heap.size->W'.heap[b]?=W.heap[b]?:=λb h1 h2=>hb.2.2 b h2 (by omega) (by omega)
 obtain⟨vals,q1,q2⟩:=h.rw;refine⟨hS,h.bt.trans hb,(hk _ (by omega) h.b3.lt).trans h.b3,(hk _ (by omega) h.ba.lt).trans h.ba,(hk _ (by omega) h.b9.lt).trans h.b9,h.al.keep IntC.holds (hb.keeps e1 e2) nL,h.ab,⟨vals,Md q1 λg hg _=>hk g (by have:=h.own hg;omega) (h.own hg).2,q2.go hb.2.1 (λb h1 h2 _ _=>hk b h1 h2) (λ_ _ h=>h)⟩,λD hD=>?_,h.dn,h.or,h.gb⟩;obtain⟨d1,d2⟩:=h.ds D hD;exact⟨d1,(hk D (by omega) (Array.getElem?_eq_some_iff.1 d2).1).trans d2⟩
theorem LoS.below{k:VC}{w:World}{B3 A L9:Nat}{ag:OA}{ng cg:Nat}{ra:OA}{rc:Nat}{fl Ds:List Nat}{v:Value}{acc:List (List Nat)}{W W':World}(h:LoS k w B3 A L9 ag ng cg ra rc fl Ds v acc W)(ho:VOk k)(hb:Below W.heap.size W W'):LoS k w B3 A L9 ag ng cg ra rc fl Ds v acc W':=h.bt2 ho (h.vs.below ho hb) (Bt2.of_below hb)
theorem LoS.wr{k:VC}{w:World}{B3 A L9:Nat}{ag:OA}{ng cg:Nat}{ra:OA}{rc:Nat}{fl Ds Ds':List Nat}{v:Value}{acc:List (List Nat)}{W W':World}{row:Option Nat}(h:LoS k w B3 A L9 ag ng cg ra rc fl Ds v acc W)(ho:VOk k)(hg:W.grownBy W' row)(hr:∀r,row=some r->L9<r/\∃o:Obj,W.heap[r]?=some o/\o.isCells=false)(hD:∀D∈Ds',D∈Ds/\row≠some D)(hn:Ds'.Pairwise (·≠·)):LoS k w B3 A L9 ag ng cg ra rc fl Ds' v acc W':=by
 obtain⟨o1,o2,o3,o4⟩:=h.or;obtain⟨g1,g2,g3⟩:=h.gb;have e9:=h.b9.lt;have hlow:Below (L9+1) W W':=⟨hg.os,hg.tape,hg.output,hg.size,λb hb=>hg.block b (by omega) (λe=>by have:=(hr b e.symm).1;omega)⟩
 have hc:∀b,b<W.heap.size->(∃cs t f,W.heap[b]?=some (Obj.cells cs t f))->W'.heap[b]?=W.heap[b]?:=λb hb ⟨cs,t,f,hq⟩=>hg.block b hb (λe=>by
  obtain⟨_,o,h1,h2⟩:=hr b e.symm;rw[hq]at h1;cases h1
  cases h2)
 obtain⟨vals,q1,q2⟩:=h.rw;refine⟨h.vs.low ho hlow (by omega) (by omega) (by omega),h.bt.low hlow (by omega),(hlow.block _ (by omega)).trans h.b3,(hlow.block _ (by omega)).trans h.ba,(hlow.block _ (by omega)).trans h.b9,Tv h.al hlow (λk1 b o k2=>by have:=h.ab k1 b o k2;omega),h.ab,⟨vals,Md q1 λg k1 k2=>hc g (h.own k1).2 k2,q2.go hg.size (λb _ k2 _ k3=>hc b k2 k3) (λ_ _ h=>h)⟩,λD k1=>?_,hn,h.or,h.gb⟩;obtain⟨d0,d3⟩:=hD D k1;obtain⟨d1,d2⟩:=h.ds D d0;exact⟨d1,(hg.block D (Array.getElem?_eq_some_iff.1 d2).1 (λe=>d3 e.symm)).trans d2⟩
theorem LoS.app{k:VC}{w:World}{B3 A L9:Nat}{ag:OA}{ng cg:Nat}{ra:OA}{rc:Nat}{fl Ds:List Nat}{v:Value}{acc:List (List Nat)}{W w2:World}(h:LoS k w B3 A L9 ag ng cg ra rc fl Ds v acc W)(ho:VOk k){vals:List Value}(hrow:W.ownsRow (L9+1) 68 1 v acc.length vals)(hls:LsN (λb=>v.ownBlock=some b\/b=L9) k.L0 W vals acc){l:List Nat}{a:OA}{c g cap:Nat}(hl:SliceC IntC 1 k.L0 W a (plI l))(hln:∀b o,l≠[]->a=some ⟨b,o,none⟩->b≠L9/\v.ownBlock≠some b)(hown:w2.ownsRow (L9+1) 68 1 (.slice (some ⟨g,0,none⟩) (acc.length+1) cap) (acc.length+1) (vals++[.slice a l.length c]))(hgr:W.grownBy w2 v.ownBlock)(hto:v.ownBlock=some g\/g=W.heap.size) :
  LoS k w B3 A L9 ag ng cg ra rc fl Ds (.slice (some ⟨g,0,none⟩) (acc.length+1) cap) (acc++[l]) (w2.setCell ⟨L9,0,none⟩ (.slice (some ⟨g,0,none⟩) (acc.length+1) cap)):=by
 obtain⟨o1,o2,o3,o4⟩:=h.or;obtain⟨g1,g2,g3⟩:=h.gb;have e9:=h.b9.lt;have hother:∀b,b<W.heap.size->b≠L9->v.ownBlock≠some b->(w2.setCell ⟨L9,0,none⟩ (.slice (some ⟨g,0,none⟩) (acc.length+1) cap)).heap[b]?=W.heap[b]?:=λb hb h1 h2=>(Below.heap_setCell w2 ⟨L9,0,none⟩ _ b h1).trans (hgr.block b hb (λe=>h2 e.symm))
 have hlow:Below L9 W (w2.setCell ⟨L9,0,none⟩ (.slice (some ⟨g,0,none⟩) (acc.length+1) cap)):=⟨hgr.os,hgr.tape,hgr.output,by simpa[World.setCell]using hgr.size,λb hb=>hother b (by omega) (by omega) (λe=>by have:=(hrow.lt b e).1;omega)⟩;have hb9:Blk L9 #[v] 109 w2:=(hgr.block L9 e9 (λe=>by have:=(hrow.lt L9 e.symm).1;omega)).trans h.b9;have hgL:=(hown.lt g rfl).1;refine⟨h.vs.low ho hlow (by omega) (by omega) (by omega),h.bt.low hlow (by omega),(hlow.block _ o2).trans h.b3,(hlow.block _ o4).trans h.ba,hb9.set 0 _,Tv h.al hlow h.ab,h.ab,⟨_,Md (by simpa using hown) λb hb _=>Below.heap_setCell w2 _ _ b (by cases hb;show g≠L9;omega),?_⟩,λD hD=>?_,h.dn,h.or,h.gb⟩
 .have hs:W.heap.size<=(w2.setCell ⟨L9,0,none⟩ (.slice (some ⟨g,0,none⟩) (acc.length+1) cap)).heap.size:=hlow.size
  have hN:∀b,b<W.heap.size->¬(v.ownBlock=some b\/b=L9)->¬((Value.slice (some ⟨g,0,none⟩) (acc.length+1) cap).ownBlock=some b\/b=L9):=by
   rintro b hb hn (e|e)
   .have e3:g=b:=Option.some.inj e
    subst e3;rcases hto with e2|e2
    .exact hn (.inl e2)
    .omega
   .exact hn (.inr e)
  have hlb:∀b o,l≠[]->a=some ⟨b,o,none⟩->b<W.heap.size:=λb o hn e=>by
   rcases hl.2 with q|⟨b',o',e',_,q,_⟩
   .exact absurd (by simpa using q) hn
   .rw[e]at e'
    cases e'
    exact q
  exact(hls.go hs (λb _ h2 h3 _=>hother b h2 (λe=>h3 (.inr e)) (λe=>h3 (.inl e))) hN).snoc (Fa hl hs λb o hn e _ hb _=>by
   obtain⟨k1,k2⟩:=hln b o (λq=>hn (by rw[q];rfl)) e;exact hother b hb k1 k2) (λb o hn e=>by
   obtain⟨k1,k2⟩:=hln b o hn e
   exact hN b (hlb b o hn e) (λq=>q.elim k2 k1))
 .obtain⟨d1,d2⟩:=h.ds D hD
  refine⟨d1,(hother D (Array.getElem?_eq_some_iff.1 d2).1 (by omega) (λe=>?_)).trans d2⟩;obtain⟨cs,t,f,q⟩:=Qw hrow e;rw[q]at d2;cases d2
theorem LoS.mark{k:VC}{w:World}{B3 A L9:Nat}{ag:OA}{ng cg:Nat}{ra:OA}{rc:Nat}{fl Ds:List Nat}{v:Value}{acc:List (List Nat)}{W:World}(h:LoS k w B3 A L9 ag ng cg ra rc fl Ds v acc W){D:Nat}(h1:L9<D)(h2:W.heap[D]?=some (Obj.deferred (some [])))(h3:∀b∈Ds,b<D):LoS k w B3 A L9 ag ng cg ra rc fl (D::Ds) v acc W :=
 { h with
  ds:=λb hb=>by
   rcases List.mem_cons.1 hb with rfl|hb
   .exact⟨h1,h2⟩
   .exact h.ds b hb
  dn:=List.pairwise_cons.2 ⟨λb hb=>by have:=h3 b hb;omega,h.dn⟩}
theorem cS{w:World}{base base':Nat}{e:TypeId}{size n:Nat}{v:Value}{xs:List Value}(h:w.ownsRow base e size v n xs)(hb:base'<=base):w.ownsRow base' e size v n xs:=by
 refine⟨h.1,?_⟩;rcases h.2 with h2|⟨g,cap,cur,rfl,h3,h4⟩
 .exact .inl h2
 .exact .inr ⟨g,cap,cur,rfl,lT hb h3,h4⟩
theorem mN(srv:List Nat->List Nat->Bool)(ls gs:List (List Nat)):(Gp srv ls gs).length=(El srv ls gs).length:=by
 unfold Gp;exact(List.mergeSort_perm _ _).length_eq
theorem Kz{P:Program}{fn:Func}{p:Tmp}(h:fn.results=#[.tmp p])(tmps:Array Value)(w:World)(v:Value)(hv:tmps.getD p undef=v):(results fn tmps).run P w=.ok v w:=by
 have hv':tmps[p]?.getD undef=v:=by simpa using hv
 simp[results,h,hv',Sem.run_pure]
theorem LoS.sort{k:VC}{w:World}{B3 A L9:Nat}{ag:OA}{ng cg:Nat}{ra:OA}{rc:Nat}{fl Ds:List Nat}{v:Value}{acc ys:List (List Nat)}{us:List Value}{W W':World}{g:Nat}(h:LoS k w B3 A L9 ag ng cg ra rc fl Ds v acc W)(ho:VOk k)(hv:v.ownBlock=some g)(hg:W.grownBy W' (some g))(hrow:W'.ownsRow (L9+1) 68 1 v acc.length us)(hys:ys.length=acc.length)(hls:LsN (λb=>v.ownBlock=some b\/b=L9) k.L0 W' us ys):LoS k w B3 A L9 ag ng cg ra rc fl Ds v ys W':=by
 obtain⟨o1,o2,o3,o4⟩:=h.or;obtain⟨g1,g2,g3⟩:=h.gb;obtain⟨k1,k2⟩:=h.own hv;have e9:=h.b9.lt;have hlow:Below (L9+1) W W':=⟨hg.os,hg.tape,hg.output,hg.size,λb hb=>hg.block b (by omega) (λe=>by cases e;omega)⟩;refine⟨h.vs.low ho hlow (by omega) (by omega) (by omega),h.bt.low hlow (by omega),(hlow.block _ (by omega)).trans h.b3,(hlow.block _ (by omega)).trans h.ba,(hlow.block _ (by omega)).trans h.b9,Tv h.al hlow (λk1 b o k2=>by have:=h.ab k1 b o k2;omega),h.ab,⟨us,by rw[hys];exact hrow,hls⟩,λD hD=>?_,h.dn,h.or,h.gb⟩;obtain⟨d1,d2⟩:=h.ds D hD;refine⟨d1,(hg.block D (Array.getElem?_eq_some_iff.1 d2).1 (λe=>?_)).trans d2⟩;obtain⟨vals,q1,_⟩:=h.rw;obtain⟨cs,t,f,q⟩:=Qw q1 (hv.trans e.symm);rw[q]at d2;cases d2
theorem Pr{F:Fence}{n:Nat}{P:Program}{fn:Func}{tmps:Array Value}{R:Ending->World->Prop}{H:List Nat->World->Prop}(hs:∀D Ds W,H (D::Ds) W->W.heap[D]?=some (Obj.deferred (some []))/\∀o,H Ds (W.putObj D o))(h0:∀W,H [] W->LeavesIn F n P fn tmps R [] .returning W):∀(Ds:List Nat)(W:World),H Ds W->LeavesInM F n P fn tmps R (Ds.map λD=>{target:=.collected D,args:=#[]}) .returning W
 |[],W,h=>h0 W h
 |D::Ds,W,h=>by
  obtain⟨h1,h2⟩:=hs D Ds W h;exact⟨by simp,.inl ⟨D,_,rfl,run_takeDeferred h1,Pr hs h0 Ds _ (h2 _)⟩⟩
end Go.Proofs.YtpidfnfilnkhkaaGreat
