import Derived.Test.YthboopnmbglkjaaGreatJ7
import Derived.Maps.AppendAt
set_option maxHeartbeats 4000000
namespace Go.Proofs.YthboopnmbglkjaaGreat
open Tryz
set_option maxRecDepth 100000
open Go.RowKit Tryz
def mS(c:UInt8):Bool:=decide (c.toNat=124\/c.toNat=38\/c.toNat=33\/c.toNat=40\/c.toNat=41\/c.toNat=61)
def Fi(l:List UInt8):Bool:=(!l.isEmpty&&l.all P.letter)||(match l with|[c]=>mS c|_=>false)
theorem Qz{l:List UInt8}(hne:l≠[])(h:∀c∈l,P.letter c=true):Fi l=true:=by
 unfold Fi;have h1:l.all P.letter=true:=List.all_eq_true.2 h;have h2:l.isEmpty=false:=by cases l with|nil=>exact absurd rfl hne|cons a b=>rfl
 rw[h1,h2];rfl
theorem nX{c:UInt8}(h:P.letter c=false):Fi [c]=mS c:=by
 unfold Fi;simp[h]
theorem lY{t:BA}{k:Nat}(h:k<t.size):cut t k (k+1)=[t[k]]:=by
 rw[Wu nL h,Tj];rfl
theorem rN{t:BA}{a b:Nat}(h:a<b)(hb:b<=t.size):cut t a b≠[]:=by
 intro e;have:(cut t a b).length=b-a:=by
  unfold cut;rw[List.length_take,List.length_drop];have:t.data.toList.length=t.size:=rfl;omega
 rw[e]at this;simp at this;omega
theorem Vr(w:World)(x:Value)(T:TypeId):∀j u,[x][j]?=some u->(w.alloc (.cells #[x] T)).cell? (((E w.heap.size 0):Addr).add j)=some u:=by
 intro j u hj
 match j,hj with
 |0,hj=>simp at hj;subst hj;simp[Addr.add]
theorem bM(s:BA):∀u∈[Value.string s],u.oneCell'=true:=by
 intro u hu;simp at hu;subst hu;rfl
theorem Qo{w:World}{B n:Nat}{e:TypeId}{size:Nat}{v:Value}{xs:List Value}(h:w.ownsRow B e size v (n+1) xs):∃g cap,v=sP g 0 (n+1) cap:=by
 rcases h.2 with h'|⟨g,cap,cur,h1,_⟩
 .exact absurd h'.2 (by omega)
 exact⟨g,cap,h1⟩
def Tf(D:List (List UInt8)):List Value:=D.map λl=>Y (P.bts l)
theorem oT:(prog.info? 9).map (λi=>(i.zero,i.size,i.bytes))=some (some (Y ⟨#[]⟩),1,16):=by kernel_rfl
theorem iF(t:BA)(w:World)(ht:t.size<=200) :
  Calls prog 148 #[Y t] w λe w'=>∃v,e=.returned (.tuple #[v,.bool ((Ad t 0).all Fi)])/\((Ad t 0).all Fi=true->∃g c,v=sP g 0 (Ad t 0).length c/\w'.ownsRow w.heap.size 9 1 v (Ad t 0).length (Tf (Ad t 0)))/\bW w w':=by
 obtain⟨i0,hi0,hz0,hz1,hz2⟩:=info_parts oT;go_enter func148,ntmps148
 go_wp2
 go_loopw [4,5] (λv i wr=>∃(k g c:Nat)(D:List (List UInt8)),k<=t.size/\i=X k/\v=sP g 0 D.length c/\Hid (Ad t 0=D++Ad t k)/\Hid (D.all Fi=true)/\D.length<=k/\Hid (wr.ownsRow w.heap.size 9 1 (sP g 0 D.length c) D.length (Tf D))/\Hid (bW w wr)) (λ_ i _=>t.size-(intOf i).toNat)
 case atStart=>exact⟨0,w.heap.size,0,[],zL,rfl,rfl,rfl,rfl,Nat.le_refl _,World.ownsRow_made (base:=w.heap.size) (e:=9) (size:=1) w #[] 0 nL (zL) rfl,(Below.refl _ _).alloc nL _⟩
 obtain⟨k,g,c,D,hk,rfl,rfl,HD,HA,hDk,HO,HB⟩:=hrel;by_cases hlt:k<t.size
 ·have i0':(0:Int)<=(k:Int):=by omega
  have i1':(k:Int)<(t.size:Int):=by omega
  by_cases hb:t[k].toNat=32
  .have HD2:Hid (Ad t 0=D++Ad t (k+1)):=by rw[HD.out,Qe hlt (UInt8.toNat_inj.1 hb)];rfl
   go_wp2
   go_roundw
   case rel=>exact⟨k+1,g,c,D,by omega,by go_num,rfl,HD2,HA,by omega,HO,HB⟩
   simp[intOf];omega
  have HS32:Hid (t[k]≠32):=λe=>hb (by rw[e];rfl)
  have hsz:=HB.out.size;have hbq:((t[k].toNat:Int)==32)=false:=by simp;omega
  obtain⟨wo,hwo⟩:∃wo,wo=wr:=⟨_,rfl⟩;subst hwo
  go_wp2
  go_loopw [6] (λn wx=>∃m,k<=m/\m<=t.size/\n=X m/\Hid (∀c∈cut t k m,P.letter c=true)/\wx=wo) (λn _=>t.size-(intOf n).toNat)
  case atStart=>exact⟨k,Nat.le_refl _,by omega,rfl,(by rw[Tj];exact(λc h=>by simp at h)),rfl⟩
  obtain⟨m,m1,m2,rfl,HC,hwx⟩:=hrel;have hwx':=hwx.symm;subst hwx';by_cases hml:m<t.size
  ·have j0:(0:Int)<=(m:Int):=by omega
   have j1:(m:Int)<(t.size:Int):=by omega
   cases hL:P.letter t[m]with
   | true =>
    have HL:=iH hL;have HC2:Hid (∀c∈cut t k (m+1),P.letter c=true):=by
     show ∀c∈_,_
     rw[Wu m1 hml];intro c hc;rcases List.mem_append.1 hc with hc|hc
     .exact HC.out c hc
     simp at hc;rw[hc];exact hL
    clear hL;go_wp2_with(go_at_call 79;refine(Gs _ _).mono ?_;rintro e w' ⟨rfl,hww⟩;have hww':=hww.symm;subst hww';rw[HL.out]);go_roundw
    case rel=>exact⟨m+1,by omega,by omega,by go_num,HC2,trivial⟩
    simp[intOf];omega
   | false =>
    have HL:=iH hL;have HST:Hid (∀hk:m<t.size,P.letter t[m]=false):=λ_=>hL
    clear hL;by_cases hkm:m=k
    .subst hkm
     have HTK:Hid (Ad t m=[t[m]]::Ad t (m+1)):=Mm hml HS32 HL;have HOK:Hid (Fi [t[m]]=mS t[m]):=nX HL
     cases hsg:mS t[m]with
     | true =>
      have hsg':t[m].toNat=124\/t[m].toNat=38\/t[m].toNat=33\/t[m].toNat=40\/t[m].toNat=41\/t[m].toNat=61:=of_decide_eq_true hsg;have HD2:Hid (Ad t 0=(D++[cut t m (m+1)])++Ad t (m+1)):=by show _=_;rw[HD.out,HTK.out,lY hml];simp
      have HA2:Hid ((D++[cut t m (m+1)]).all Fi=true):=by show _=_;rw[List.all_append,HA.out,lY hml];simp[HOK.out,hsg]
      clear hsg HTK HOK HD HA hb;have HSG:Hid (t[m].toNat=124\/t[m].toNat=38\/t[m].toNat=33\/t[m].toNat=40\/t[m].toNat=41\/t[m].toNat=61):=hsg';clear hsg';go_upto_region 10 with(go_at_call 79;refine(Gs _ _).mono ?_;rintro e w' ⟨rfl,hww⟩;have hww':=hww.symm;subst hww';rw[HL.out])
      go_cut [67] (λb wy=>b=.bool false/\wy=wo)
      case first =>
       rcases HSG.out with hc|hc|hc|hc|hc|hc
       all_goals
        go_wp2
        go_meet;exact⟨rfl,rfl⟩
      obtain⟨rfl,hwc⟩:=hcut;have hwc':=hwc.symm;subst hwc';go_upto_region 13 with fail;have hnm:((m:Int)+1)=((m+1:Nat):Int):=by omega
      have hn2:m<m+1/\m+1<=t.size:=by omega
      rw[hnm];clear hnm;generalize m+1=n at *;obtain⟨hn3,hn4⟩:=hn2;have e1:(0:Int)<=(m:Int):=by omega
      have e2:(m:Int)<=(n:Int):=by omega
      have e3:(n:Int)<=(t.size:Int):=by omega
      go_wp2_with(at_builtin;refine wpList_append_own_at _ rfl (.tmp 71) (.tmp 76) 47 rfl w.heap.size 9 i0 (Y ⟨#[]⟩) 1 16 underlying47 hi0 hz0 hz1 hz2 rfl (by decide) _ D.length (Tf D) rfl (HO.out.alloc _) (E wo.heap.size 0) 1 1 [Y (t.extract m n)] rfl rfl (Vr _ _ _) (bM _) (by unfold maxLen;omega) (by omega) (by simp;omega) ?_;intro v' w7 hown7 hgrow7 _ _;obtain⟨g2,c2,rfl⟩:=Qo hown7);have HO2:Hid (w7.ownsRow w.heap.size 9 1 (sP g2 0 (D++[cut t m n]).length c2) (D++[cut t m n]).length (Tf (D++[cut t m n]))):=by
       have h7:=hown7;rw[Lh]at h7;show World.ownsRow _ _ _ _ _ _ _
       simpa[Tf]using h7
      have HB2:Hid (bW w w7):=(HB.out.alloc hsz _).grown hgrow7 (by simp;omega) (λj hj=>by cases hj;exact(HO.out.lt g rfl).1);clear hown7 hgrow7
      go_wp2
      go_roundw
      case rel=>exact⟨n,g2,c2,D++[cut t m n],by omega,by go_num,by simp,HD2,HA2,by simp;omega,HO2,HB2⟩
      simp[intOf];omega
     | false =>
      have hsg':¬(t[m].toNat=124\/t[m].toNat=38\/t[m].toNat=33\/t[m].toNat=40\/t[m].toNat=41\/t[m].toNat=61):=of_decide_eq_false hsg;have HF:Hid ((Ad t 0).all Fi=false):=by show _=_;rw[HD.out,List.all_append,HTK.out,List.all_cons,HOK.out,hsg];simp
      have c1:¬(t[m].toNat:Int)=124:=by omega
      have c2:¬(t[m].toNat:Int)=38:=by omega
      have c3:¬(t[m].toNat:Int)=33:=by omega
      have c4:¬(t[m].toNat:Int)=40:=by omega
      have c5:¬(t[m].toNat:Int)=41:=by omega
      have c6:¬(t[m].toNat:Int)=61:=by omega
      clear hsg hsg' HTK HOK HD HA;go_upto_region 10 with(go_at_call 79;refine(Gs _ _).mono ?_;rintro e w' ⟨rfl,hww⟩;have hww':=hww.symm;subst hww';rw[HL.out])
      go_cut [67] (λb wy=>b=.bool true/\wy=wo)
      case first =>
       go_wp2_with fail
       all_goals go_meet
       refine⟨?_,rfl⟩;simp;omega
      case rest =>
      obtain⟨rfl,hwc⟩:=hcut;have hwc':=hwc.symm;subst hwc'
      go_wp2
      go_ret2
      refine⟨_,(by rw[HF.out];rfl),?_,HB⟩;intro h
      exfalso
      first|(rw[HF.out]at h;cases h)|(rw[<-List.all_eq_true,HF.out]at h;cases h)
    have hkm':¬(m:Int)=(k:Int):=by omega
    have HTK:Hid (Ad t k=cut t k m::Ad t m):=bL (by omega) m2 HC HST;have HD2:Hid (Ad t 0=(D++[cut t k m])++Ad t m):=by show _=_;rw[HD.out,HTK.out];simp
    have HA2:Hid ((D++[cut t k m]).all Fi=true):=by show _=_;rw[List.all_append,HA.out];simp[Qz (rN (by omega) m2) HC.out]
    clear HTK HD HA hb;go_wp2_with(first|(go_at_call 79;refine(Gs _ _).mono ?_;rintro e w' ⟨rfl,hww⟩;have hww':=hww.symm;subst hww';rw[HL.out])|(at_builtin;refine wpList_append_own_at _ rfl (.tmp 71) (.tmp 76) 47 rfl w.heap.size 9 i0 (Y ⟨#[]⟩) 1 16 underlying47 hi0 hz0 hz1 hz2 rfl (by decide) _ D.length (Tf D) rfl (HO.out.alloc _) (E wo.heap.size 0) 1 1 [Y (t.extract k m)] rfl rfl (Vr _ _ _) (bM _) (by unfold maxLen;omega) (by omega) (by simp;omega) ?_;intro v' w7 hown7 hgrow7 _ _;obtain⟨g2,c2,rfl⟩:=Qo hown7));have HO2:Hid (w7.ownsRow w.heap.size 9 1 (sP g2 0 (D++[cut t k m]).length c2) (D++[cut t k m]).length (Tf (D++[cut t k m]))):=by
     have h7:=hown7;rw[Lh]at h7;show World.ownsRow _ _ _ _ _ _ _
     simpa[Tf]using h7
    have HB2:Hid (bW w w7):=(HB.out.alloc hsz _).grown hgrow7 (by simp;omega) (λj hj=>by cases hj;exact(HO.out.lt g rfl).1);clear hown7 hgrow7
    go_wp2
    go_roundw
    case rel=>exact⟨m,g2,c2,D++[cut t k m],by omega,by go_num,by simp,HD2,HA2,by simp;omega,HO2,HB2⟩
    simp[intOf];omega
  have hme:m=t.size:=by omega
  have HST:Hid (∀hk:m<t.size,P.letter t[m]=false):=λh=>absurd h hml
  have hkm':¬(m:Int)=(k:Int):=by omega
  have HTK:Hid (Ad t k=cut t k m::Ad t m):=bL (by omega) m2 HC HST;have HD2:Hid (Ad t 0=(D++[cut t k m])++Ad t m):=by show _=_;rw[HD.out,HTK.out];simp
  have HA2:Hid ((D++[cut t k m]).all Fi=true):=by show _=_;rw[List.all_append,HA.out];simp[Qz (rN (by omega) m2) HC.out]
  clear HTK HD HA hb hme HST;have hml':¬(m:Int)<(t.size:Int):=by omega
  clear hml;go_wp2_with(at_builtin;refine wpList_append_own_at _ rfl (.tmp 71) (.tmp 76) 47 rfl w.heap.size 9 i0 (Y ⟨#[]⟩) 1 16 underlying47 hi0 hz0 hz1 hz2 rfl (by decide) _ D.length (Tf D) rfl (HO.out.alloc _) (E wo.heap.size 0) 1 1 [Y (t.extract k m)] rfl rfl (Vr _ _ _) (bM _) (by unfold maxLen;omega) (by omega) (by simp;omega) ?_;intro v' w7 hown7 hgrow7 _ _;obtain⟨g2,c2,rfl⟩:=Qo hown7);have HO2:Hid (w7.ownsRow w.heap.size 9 1 (sP g2 0 (D++[cut t k m]).length c2) (D++[cut t k m]).length (Tf (D++[cut t k m]))):=by
   have h7:=hown7;rw[Lh]at h7;show World.ownsRow _ _ _ _ _ _ _
   simpa[Tf]using h7
  have HB2:Hid (bW w w7):=(HB.out.alloc hsz _).grown hgrow7 (by simp;omega) (λj hj=>by cases hj;exact(HO.out.lt g rfl).1);clear hown7 hgrow7
  go_wp2
  go_roundw
  case rel=>exact⟨m,g2,c2,D++[cut t k m],by omega,by go_num,by simp,HD2,HA2,by simp;omega,HO2,HB2⟩
  simp[intOf];omega
 have hke:k=t.size:=by omega
 have HE:Hid (Ad t 0=D):=by rw[HD.out,Ic (by omega),List.append_nil];rfl
 go_wp2
 go_ret2
 exact⟨_,by rw[HE.out,HA.out];rfl,λ_=>⟨g,c,by rw[HE.out];rfl,by rw[HE.out];exact HO.out⟩,HB⟩
structure PsAt (w:World) (p g c:Nat) (L:List (List UInt8)) (i:Nat) (bad:Bool):Prop where
 c0:w.cell? (E p 0)=some (sP g 0 L.length c)
 c1:w.cell? (E p 1)=some (X i)
 c2:w.cell? (E p 2)=some (.bool bad)
 f1:w.frozen? (E p 1)=false
 f2:w.frozen? (E p 2)=false
 ne:g≠p
 lt:g<w.heap.size
 row:∀j l,L[j]?=some l->w.cell? (E g j)=some (Y (P.bts l))
theorem PsAt.below{w w':World}{p g c:Nat}{L:List (List UInt8)}{i:Nat}{b:Bool}(h:PsAt w p g c L i b)(hb:bW w w'):PsAt w' p g c L i b:=by
 have hp:p<w.heap.size:=block_lt_of_cell h.c0
 exact⟨(hb.cell (p:=(E p 0)) hp).trans h.c0,(hb.cell (p:=(E p 1)) hp).trans h.c1,(hb.cell (p:=(E p 2)) hp).trans h.c2,(hb.frozen (p:=(E p 1)) hp).trans h.f1,(hb.frozen (p:=(E p 2)) hp).trans h.f2,h.ne,lL h.lt hb.size,
  λj l hj=>(hb.cell (p:=(E g j)) h.lt).trans (h.row j l hj)⟩
theorem PsAt.drew{w:World}{p g c:Nat}{L:List (List UInt8)}{i:Nat}{b:Bool}(h:PsAt w p g c L i b):PsAt w.drew p g c L i b:=⟨h.c0,h.c1,h.c2,h.f1,h.f2,h.ne,h.lt,h.row⟩
theorem PsAt.plt{w:World}{p g c:Nat}{L:List (List UInt8)}{i:Nat}{b:Bool}(h:PsAt w p g c L i b):p<w.heap.size:=block_lt_of_cell h.c0
theorem Mi{w:World}{p g o j:Nat}{v:Value}(h:g≠p):(w.setCell (E p o) v).cell? (E g j)=w.cell? (E g j) :=
 World.cell?_of_block (w:=w) (a:=(E g j)) (Below.heap_setCell w (E p o) v g h)
theorem PsAt.at{w:World}{p g c:Nat}{L:List (List UInt8)}{i:Nat}{b:Bool}(h:PsAt w p g c L i b):PsAt (w.setCell (E p 1) (X ((i:Int)+1))) p g c L (i+1) b:=by
 obtain⟨c0,c1,c2,f1,f2,ne,lt,row⟩:=h;refine⟨by simp[go_sem,c0],by simp[go_sem,c1],by simp[go_sem,c2],by simp[go_sem,f1],by simp[go_sem,f2],ne,by simpa[World.setCell]using lt,λj l hj=>(Mi ne).trans (row j l hj)⟩
theorem PsAt.bad{w:World}{p g c:Nat}{L:List (List UInt8)}{i:Nat}{b:Bool}(h:PsAt w p g c L i b):PsAt (w.setCell (E p 2) (.bool true)) p g c L i true:=by
 obtain⟨c0,c1,c2,f1,f2,ne,lt,row⟩:=h;refine⟨by simp[go_sem,c0],by simp[go_sem,c1],by simp[go_sem,c2],by simp[go_sem,f1],by simp[go_sem,f2],ne,by simpa[World.setCell]using lt,λj l hj=>(Mi ne).trans (row j l hj)⟩
theorem vX(a b:List UInt8):((P.bts a).toList==(P.bts b).toList)=decide (a=b):=by
 rw[ByteArray.toList_eq,ByteArray.toList_eq,Bool.eq_iff_iff];simp[P.bts]
theorem vN(s:UInt8)(L:List (List UInt8))(i:Nat):(P.tk s (L.drop i)).isSome=(match L[i]? with|some l=>decide (l=[s])|none=>false):=by
 by_cases h:i<L.length
 .rw[List.drop_eq_getElem_cons h,gE h]
  by_cases e:L[i]=[s]
  .simp[P.tk,e]
  simp[P.tk,e]
 rw[List.drop_eq_nil_of_le (by omega),List.getElem?_eq_none (by omega)];rfl
theorem zC(p g c:Nat)(L:List (List UInt8))(i:Nat)(b:Bool)(s:UInt8)(w:World)(h:PsAt w p g c L i b)(hi:i<=L.length) :
  Calls prog 190 #[pP p 0,Y ⟨#[s]⟩] w λe w'=>e=.returned (.bool (P.tk s (L.drop i)).isSome)/\w'=w.drew:=by
 have HP:=iH h;obtain⟨c0,c1,c2,_,_,_,_,row⟩:=h;rw[vN];by_cases hlt:i<L.length
 .have r0:=row i _ (gE hlt)
  have i0:(0:Int)<=(i:Int):=by omega
  have i1:(i:Int)<(L.length:Int):=by omega
  have HE:Hid ((match L[i]? with|some l=>decide (l=[s])|none=>false)=decide (L[i]=[s])):=by rw[gE hlt];rfl
  rw[HE.out];clear row HE c2;have HB:Hid (((P.bts L[i]).toList==(⟨#[s]⟩:BA).toList)=decide (L[i]=[s])):=vX L[i] [s];generalize P.bts L[i]=T at *;go_enter func190,ntmps190;go_wp2_with fail
  go_region
  go_wp2
  go_ret;exact⟨Ab (by have:=HB.out;simpa using this),rfl⟩
 have HE:Hid ((match L[i]? with|some l=>decide (l=[s])|none=>false)=false):=by rw[List.getElem?_eq_none (by omega)];rfl
 rw[HE.out];have i1:¬(i:Int)<(L.length:Int):=by omega
 clear row HE c2;go_enter func190,ntmps190;go_wp2_with fail
 go_region
 go_wp2
 go_ret;exact⟨rfl,rfl⟩
theorem Hw(p g c:Nat)(L:List (List UInt8))(i:Nat)(b:Bool)(s:UInt8)(w:World)(h:PsAt w p g c L i b)(hi:i<=L.length)(hl:L.length<=200) :
  Calls prog 169 #[pP p 0,Y ⟨#[s]⟩] w λe w'=>∃k,e=.returned (.bool (P.tk s (L.drop i)).isSome)/\i<=k/\k<=L.length/\L.drop k=(P.tk s (L.drop i)).getD (L.drop i)/\((P.tk s (L.drop i)).isSome=true->k=i+1)/\((P.tk s (L.drop i)).isSome=false->k=i)/\PsAt w' p g c L k b/\But p w.heap.size w w':=by
 have HP:=iH h;clear h;go_enter func169,ntmps169;go_wp2_with fail;refine(zC p g c L i b s _ HP hi).mono ?_;rintro e w1⟨rfl,rfl⟩;have H1:Hid (PsAt w.drew p g c L i b):=HP.out.drew;have HB:Hid (But p w.heap.size w w.drew):=(But.refl _ _ _).drew;generalize w.drew=w1 at *
 cases hT:P.tk s (L.drop i)with
 |none =>
  have HT:=iH hT;clear hT
  go_wp2
  go_ret;exact⟨i,(by rw[HT.out];rfl),Nat.le_refl _,hi,(by rw[HT.out];rfl),(λh=>by rw[HT.out]at h;cases h),(λ_=>rfl),H1,HB⟩
 | some r =>
  have hlt:i<L.length:=by
   have:=P.tk_some hT;have h2:(L.drop i).length=r.length+1:=by rw[this];rfl
   rw[List.length_drop]at h2;omega
  have HR:Hid (L.drop (i+1)=r):=by
   have h3:=P.tk_some hT;rw[List.drop_eq_getElem_cons hlt]at h3;injection h3
  have HT:=iH hT;clear hT;obtain⟨c0,c1,c2,f1,f2,_,_,_⟩:=H1.out
  go_wp2
  go_ret;exact⟨i+1,(by rw[HT.out];rfl),by omega,by omega,(by rw[HT.out,HR.out];rfl),(λ_=>rfl),(λh=>by rw[HT.out]at h;cases h),H1.out.at,HB.out.set _ _⟩
theorem cG{L:List (List UInt8)}{i:Nat}(h:i<L.length)(e:P.nmB L[i]=true):P.nm (L.drop i)=some (L[i],L.drop (i+1)):=by
 rw[List.drop_eq_getElem_cons h];simp[P.nm,e]
theorem Qs{L:List (List UInt8)}{i:Nat}(h:∀hi:i<L.length,P.nmB L[i]=false):P.nm (L.drop i)=none:=by
 by_cases hi:i<L.length
 .rw[List.drop_eq_getElem_cons hi]
  simp[P.nm,h hi]
 rw[List.drop_eq_nil_of_le (by omega)];rfl
theorem Yv(p g c:Nat)(L:List (List UInt8))(i:Nat)(w:World)(h:PsAt w p g c L i false)(hi:i<=L.length)(hl:L.length<=200)(hz:∀l∈L,l.length<=200) :
  Calls prog 196 #[pP p 0] w λe w' =>
   (∃n,P.nm (L.drop i)=some (n,L.drop (i+1))/\i<L.length/\e=.returned (Y (P.bts n))/\PsAt w' p g c L (i+1) false/\But p w.heap.size w w') \/
   (P.nm (L.drop i)=none/\e=.returned (Y ⟨#[]⟩)/\PsAt w' p g c L i true/\But p w.heap.size w w'):=by
 have HP:=iH h;obtain⟨c0,c1,c2,f1,f2,_,_,row⟩:=h;by_cases hlt:i<L.length
 .have r0:=row i _ (gE hlt)
  have i0:(0:Int)<=(i:Int):=by omega
  have i1:(i:Int)<(L.length:Int):=by omega
  have hsz:(P.bts L[i]).size<=maxLen:=by
   have:=hz L[i] (List.getElem_mem hlt);unfold maxLen P.bts;simp[ByteArray.size];omega
  have HQ:Hid (P.nameOk (P.bts L[i])=P.nmB L[i]):=P.nmB_eq _;have HY:Hid (P.nmB L[i]=true->P.nm (L.drop i)=some (L[i],L.drop (i+1))):=cG hlt;have HN:Hid (P.nmB L[i]=false->P.nm (L.drop i)=none):=λe=>Qs (λ_=>e)
  have k0:=cell_regrown c0;have k1:=cell_regrown c1;have k2:=cell_regrown r0;clear row c2
  cases hq:P.nmB L[i]with
  | true =>
   have HY':Hid (P.nm (L.drop i)=some (L[i],L.drop (i+1))):=HY.out hq;have cE:∀d os,Calls prog 44 #[Y (P.bts L[i])] (Sort.grow (redrawn w d) os) λe w''=>e=.returned (.bool true)/\∃p:Regrown,w''=Sort.grow (redrawn w p.d) p.os:=λd os=>(Bj (P.bts L[i]) _ hsz).mono (by rintro e w' ⟨rfl,rfl⟩;exact⟨by rw[HQ.out,hq],⟨d,os⟩,rfl⟩)
   clear hq HY HN HQ hz hsz c0 c1 r0 f1 f2;generalize hT:P.bts L[i]=T at *;have HT:=iH hT;clear hT;go_enter func196,ntmps196;go_wp2_with fail;refine wp_region_quiet_below (by kernel_rfl) (by kernel_rfl) ?_
   repeat(quiet_step (first|exact cE _ _))
   refine wpQuiet_nil ?_;intro wq hw';obtain⟨⟨dq,osq⟩,hw''⟩:=hw';have hbq:bW w wq:=by
    simp only[]at hw'';rw[hw''];exact below_regrown w dq osq
   have G:Hid (PsAt wq p g c L i false):=HP.out.below hbq;have GB:Hid (But p w.heap.size w wq):=But.of_below hbq;clear hw'' hbq cE k0 k1 k2;have G1:Hid (PsAt (wq.setCell (E p 1) (X ((i:Int)+1))) p g c L (i+1) false):=G.out.at;have r1:(wq.setCell (E p 1) (X ((i:Int)+1))).cell? (E g i)=some (Y T):=by rw[<-HT.out];exact G1.out.row i _ (gE hlt)
   obtain⟨d0,d1,d2,e1,e2,_,_,_⟩:=G.out;obtain⟨x0,x1,x2,_,_,_,_,_⟩:=G1.out;go_upto_region 5 with fail;have GB1:Hid (But p w.heap.size w (wq.setCell (E p 1) (X ((i:Int)+1)))):=GB.out.set _ _;clear d0 d1 d2 e1 e2;generalize wq.setCell (E p 1) (X ((i:Int)+1))=w8 at *
   go_region
   go_wp2
   go_ret;exact .inl ⟨_,HY'.out,hlt,by rw[HT.out];rfl,G1.out.drew,GB1.out.drew⟩
  | false =>
   have HN':Hid (P.nm (L.drop i)=none):=HN.out hq;have cE:∀d os,Calls prog 44 #[Y (P.bts L[i])] (Sort.grow (redrawn w d) os) λe w''=>e=.returned (.bool false)/\∃p:Regrown,w''=Sort.grow (redrawn w p.d) p.os:=λd os=>(Bj (P.bts L[i]) _ hsz).mono (by rintro e w' ⟨rfl,rfl⟩;exact⟨by rw[HQ.out,hq],⟨d,os⟩,rfl⟩)
   clear hq HY HN HQ hz hsz c0 c1 r0 f1 f2;generalize P.bts L[i]=T at *;go_enter func196,ntmps196;go_wp2_with fail;refine wp_region_quiet_below (by kernel_rfl) (by kernel_rfl) ?_
   repeat(quiet_step (first|exact cE _ _))
   refine wpQuiet_nil ?_;intro wq hw';obtain⟨⟨dq,osq⟩,hw''⟩:=hw';have hbq:bW w wq:=by
    simp only[]at hw'';rw[hw''];exact below_regrown w dq osq
   have G:Hid (PsAt wq p g c L i false):=HP.out.below hbq;have GB:Hid (But p w.heap.size w wq):=But.of_below hbq;clear hw'' hbq cE k0 k1 k2;obtain⟨d0,d1,d2,e1,e2,_,_,_⟩:=G.out
   go_wp2
   go_ret;exact .inr ⟨HN'.out,rfl,G.out.bad,GB.out.set _ _⟩
 have HN':Hid (P.nm (L.drop i)=none):=Qs (λh=>absurd h hlt);have i1:¬(i:Int)<(L.length:Int):=by omega
 clear row hz;go_enter func196,ntmps196;go_wp2_with fail
 go_region
 have G:Hid (PsAt w.drew p g c L i false):=HP.out.drew;have GB:Hid (But p w.heap.size w w.drew):=(But.refl _ _ _).drew;clear c0 c1 c2 f1 f2;generalize w.drew=wq at *;obtain⟨d0,d1,d2,e1,e2,_,_,_⟩:=G.out
 go_wp2
 go_ret;exact .inr ⟨HN'.out,rfl,G.out.bad,GB.out.set _ _⟩
def ndv(n:P.Nd):List Value:=[X n.kind,Y n.name,Y n.value,X n.kids]
def Cp(ns:List P.Nd):List Value:=ns.flatMap ndv
theorem yR:Cp []=[]:=rfl
theorem Ia(a b:List P.Nd):Cp (a++b)=Cp a++Cp b:=by simp[Cp]
theorem Mb:∀ns:List P.Nd,(Cp ns).length=ns.length*4
 |[]=>rfl
 |n::r=>by
  have:=Mb r;simp[Cp,ndv]at this⊢;omega
theorem Mp:∀(ns:List P.Nd),∀u∈Cp ns,u.oneCell'=true
 |[],u,h=>by cases h
 | n::r,u,h=>by
  rw[show n::r=[n]++r from rfl,Ia]at h;rcases List.mem_append.1 h with h|h
  .simp[Cp,ndv]at h
   rcases h with rfl|rfl|rfl|rfl<;>rfl
  exact Mp r u h
def NdRow(w:World)(B:Nat)(v:Value)(ns:List P.Nd):Prop:=∃g cap,v=sP g 0 ns.length cap/\B<=g/\g<w.heap.size/\w.rangeAt g 0 (Cp ns)
theorem NdRow.but{w w':World}{B B' p:Nat}{v:Value}{ns:List P.Nd}(h:NdRow w B v ns)(hb:But p B' w w')(hB:w.heap.size<=B')(hp:p<B):NdRow w' B v ns:=by
 obtain⟨g,cap,h1,h2,h3,h4⟩:=h;refine⟨g,cap,h1,h2,lL h3 hb.size,λj u hj=>?_⟩;exact(World.cell?_of_block (w:=w) (a:=(E g (0+j))) (hb.block g (by omega) (by omega))).trans (h4 j u hj)
theorem NdRow.below{w w':World}{B B':Nat}{v:Value}{ns:List P.Nd}(h:NdRow w B v ns)(hb:Below B' w w')(hB:w.heap.size<=B'):NdRow w' B v ns:=by
 obtain⟨g,cap,h1,h2,h3,h4⟩:=h;refine⟨g,cap,h1,h2,lL h3 hb.size,λj u hj=>?_⟩;exact(hb.cell (p:=(E g (0+j))) (show g<B' by omega)).trans (h4 j u hj)
theorem NdRow.mono{w:World}{B B':Nat}{v:Value}{ns:List P.Nd}(h:NdRow w B v ns)(hB:B'<=B):NdRow w B' v ns:=by
 obtain⟨g,cap,h1,h2,h3,h4⟩:=h;exact⟨g,cap,h1,by omega,h3,h4⟩
theorem nK{w:World}{B g c:Nat}{e:TypeId}{ns:List P.Nd}(h:w.ownsRow B e 4 (sP g 0 ns.length c) ns.length (Cp ns)):NdRow w B (sP g 0 ns.length c) ns:=by
 refine⟨g,c,rfl,(h.lt g rfl).1,(h.lt g rfl).2,λj u hj=>?_⟩;have hlt:=Af hj;rw[Mb]at hlt;rw[Nat.zero_add];exact(h.cellAt j (by omega)).trans hj
theorem wX:(prog.info? 210).map (λi=>(i.zero,i.size,i.bytes))=some (some (.agg #[X 0,Y ⟨#[]⟩,Y ⟨#[]⟩,X 0]),4,48):=by kernel_rfl
theorem mN(w:World)(n:P.Nd)(T:TypeId):∀j u,(ndv n)[j]?=some u->(w.alloc (.cells #[X n.kind,Y n.name,Y n.value,X n.kids] T)).cell? (((E w.heap.size 0):Addr).add j)=some u:=by
 intro j u hj;rw[Addr.add_mid];have hlt:=Af hj;have hr:(w.alloc (.cells #[X n.kind,Y n.name,Y n.value,X n.kids] T)).rangeAt w.heap.size 0 (ndv n):=Aa (by simp) (Aa (by simp) (Aa (by simp) (Aa (by simp) (Am _ _ _))));exact hr j u hj
theorem wU(n:P.Nd):∀u∈ndv n,u.oneCell'=true:=λu hu=>Mp [n] u (by simpa[Cp]using hu)
def PartsAt(w:World)(q:Nat)(Ps:List (List P.Nd)):Prop:=∀j ns,Ps[j]?=some ns->∃v,w.cell? (E q j)=some v/\NdRow w 0 v ns
theorem PartsAt.below{w w':World}{q:Nat}{Ps:List (List P.Nd)}(h:PartsAt w q Ps)(hb:bW w w'):PartsAt w' q Ps:=by
 intro j ns hj;obtain⟨v,h1,h2⟩:=h j ns hj;exact⟨v,(hb.cell (p:=(E q j)) (block_lt_of_cell h1)).trans h1,h2.below hb nL⟩
theorem Zs{α:Type}:∀(Ps:List (List α))(j:Nat)(x:List α),Ps[j]?=some x->(Ps.take (j+1)).flatten=(Ps.take j).flatten++x
 |[],_,_,h=>by simp at h
 |y::r,0,x,h=>by simp at h;subst h;simp
 |y::r,j+1,x,h=>by
  simp at h;have:=Zs r j x h;simp at this⊢;rw[this]
theorem lJ{α:Type}:∀(Ps:List (List α))(j:Nat),(Ps.take j).flatten.length<=Ps.flatten.length
 |[],_=>by simp
 |y::r,0=>by simp
 |y::r,j+1=>by
  have:=lJ r j;simp only[List.take_succ_cons,List.flatten_cons,List.length_append];omega
theorem Uo(kind kids:Int)(q:Nat)(Ps:List (List P.Nd))(w:World)(h:PartsAt w q Ps)(hl:Ps.length<=10)(hf:Ps.flatten.length<=1000) :
  Calls prog 170 #[X kind,X kids,sP q 0 Ps.length Ps.length] w λe w'=>∃v,e=.returned v/\NdRow w' w.heap.size v (Ps.flatten++[⟨kind,⟨#[]⟩,⟨#[]⟩,kids⟩])/\bW w w':=by
 obtain⟨i0,hi0,hz0,hz1,hz2⟩:=info_parts wX;have HP:=iH h;clear h;go_enter func170,ntmps170
 go_wp2
 go_loopw [7,8] (λv i wr=>∃(j g c n:Nat),j<=Ps.length/\i=X j/\v=sP g 0 n c/\n<=1000/\Hid ((Ps.take j).flatten.length=n)/\Hid (wr.ownsRow w.heap.size 210 4 (sP g 0 n c) n (Cp (Ps.take j).flatten))/\Hid (bW w wr)) (λ_ i _=>Ps.length-(intOf i).toNat)
 case atStart=>exact⟨0,w.heap.size,0,0,zL,rfl,rfl,zL,by simp;trivial,World.ownsRow_made (base:=w.heap.size) (e:=210) (size:=4) w #[] 0 nL (zL) rfl,(Below.refl _ _).alloc nL _⟩
 obtain⟨j,g,c,n,hj,rfl,rfl,hn,HL,HO,HB⟩:=hrel;have hsz:=HB.out.size;by_cases hlt:j<Ps.length
 .obtain⟨ns,hns⟩:=gXe hlt
  obtain⟨v1,r1,g1,c1,rfl,_,hg1,hr1⟩:=(HP.out.below HB) j ns hns;have HF:Hid ((Ps.take (j+1)).flatten=(Ps.take j).flatten++ns):=Zs Ps j ns hns;have hle:Hid (n+ns.length<=1000):=by
   show _<=_
   have h1:=lJ Ps (j+1);rw[HF.out,List.length_append,HL.out]at h1;omega
  have HR1:Hid (∀i u,(Cp ns)[i]?=some u->wr.cell? (((E g1 0):Addr).add i)=some u):=λi u hi=>by rw[Addr.add_mid];exact hr1 i u hi
  have hle':=hle.out;clear hns hr1;go_wp2_with(at_builtin;refine wpList_append_own_at _ rfl (.tmp 16) (.tmp 20) 172 rfl w.heap.size 210 i0 _ 4 48 underlying172 hi0 hz0 hz1 hz2 rfl (by decide) _ n _ rfl HO (E g1 0) ns.length c1 (Cp ns) rfl (Mb ns) HR1 (Mp ns) (by unfold maxLen;omega) (by omega) hsz ?_;intro v' w7 hown7 hgrow7 hnil _);rcases hown7.2 with h'|⟨g2,c2,_,hv2,_⟩
  .exact absurd (hnil.1 h'.1).1 (λh=>by cases h)
  subst hv2;have HO2:Hid (w7.ownsRow w.heap.size 210 4 (sP g2 0 (n+ns.length) c2) (n+ns.length) (Cp (Ps.take (j+1)).flatten)):=by
   rw[HF.out,Ia];exact hown7
  have HL2:Hid ((Ps.take (j+1)).flatten.length=n+ns.length):=by rw[HF.out,List.length_append,HL.out];rfl
  have HB2:Hid (bW w w7):=HB.out.grown hgrow7 hsz (λi hi=>by cases hi;exact(HO.out.lt g rfl).1);clear hown7 hgrow7 hnil
  go_wp2
  go_roundw
  case rel=>exact⟨j+1,g2,c2,n+ns.length,by omega,by go_num,rfl,hle',HL2,HO2,HB2⟩
  simp[intOf];omega
 have hje:j=Ps.length:=by omega
 have HD:Hid ((Ps.take j).flatten=Ps.flatten):=by rw[hje,List.take_length];rfl
 have HO':Hid (wr.ownsRow w.heap.size 210 4 (sP g 0 n c) n (Cp Ps.flatten)):=by rw[<-HD.out];exact HO.out
 have HL':Hid (Ps.flatten.length=n):=by rw[<-HD.out];exact HL.out
 have i1:¬(j:Int)<(Ps.length:Int):=by omega
 clear hje HD HL HO;go_wp2_with(at_builtin;refine wpList_append_own_at _ rfl (.tmp 22) (.tmp 26) 172 rfl w.heap.size 210 i0 _ 4 48 underlying172 hi0 hz0 hz1 hz2 rfl (by decide) _ n _ rfl (HO'.out.alloc _) (E wr.heap.size 0) 1 1 (ndv ⟨kind,⟨#[]⟩,⟨#[]⟩,kids⟩) rfl rfl (mN _ _ _) (wU _) (by unfold maxLen;omega) (by omega) (by simp;omega) ?_;intro v' w7 hown7 hgrow7 _ _;obtain⟨g2,c2,rfl⟩:=Qo hown7);have HO2:Hid (w7.ownsRow w.heap.size 210 4 (sP g2 0 (Ps.flatten++[(⟨kind,⟨#[]⟩,⟨#[]⟩,kids⟩:P.Nd)]).length c2) (Ps.flatten++[(⟨kind,⟨#[]⟩,⟨#[]⟩,kids⟩:P.Nd)]).length (Cp (Ps.flatten++[⟨kind,⟨#[]⟩,⟨#[]⟩,kids⟩]))):=by
  rw[Ia,List.length_append,HL'.out];exact hown7
 have HB2:Hid (bW w w7):=(HB.out.alloc hsz _).grown hgrow7 (by simp;omega) (λi hi=>by cases hi;exact(HO'.out.lt g rfl).1);have hlen:Hid ((Ps.flatten++[(⟨kind,⟨#[]⟩,⟨#[]⟩,kids⟩:P.Nd)]).length=n+1):=by rw[List.length_append,HL'.out];rfl
 clear hown7 hgrow7
 go_wp2
 go_ret;refine⟨_,rfl,?_,HB2⟩;have:=nK HO2;rw[hlen.out]at this;exact this
end Go.Proofs.YthboopnmbglkjaaGreat
