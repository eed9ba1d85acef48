import Derived.Test.YtpidfnfilnkhkaaGreatJ8
import Derived.Maps.AppendAt
set_option maxHeartbeats 4000000
namespace Go.Proofs.YtpidfnfilnkhkaaGreat
open Tryz
set_option maxRecDepth 100000
open Go.RowKit Tryz
def kV(c:UInt8):Bool:=decide (c.toNat=124\/c.toNat=38\/c.toNat=33\/c.toNat=40\/c.toNat=41\/c.toNat=61)
def Fj(l:List UInt8):Bool:=(!l.isEmpty&&l.all P.letter)||(match l with|[c]=>kV c|_=>false)
theorem Qt{l:List UInt8}(hne:l≠[])(h:∀c∈l,P.letter c=true):Fj l=true:=by
 unfold Fj;have h1:l.all P.letter=true:=List.all_eq_true.2 h;have h2:l.isEmpty=false:=by cases l with|nil=>exact absurd rfl hne|cons a b=>rfl
 rw[h1,h2];rfl
theorem nK{c:UInt8}(h:P.letter c=false):Fj [c]=kV c:=by
 unfold Fj;simp[h]
theorem lO{t:BA}{k:Nat}(h:k<t.size):cut t k (k+1)=[t[k]]:=by
 rw[Ur nL h,St];rfl
theorem tN{t:BA}{a b:Nat}(h:a<b)(hb:b<=t.size):cut t a b≠[]:=by
 intro e;have:(cut t a b).length=b-a:=by
  unfold cut;rw[List.length_take,List.length_drop];have:t.data.toList.length=t.size:=rfl;omega
 rw[e]at this;simp at this;omega
theorem Tq(w:World)(x:Value)(T:TypeId):∀j u,[x][j]?=some u->(w.alloc (.cells #[x] T)).cell? ((⟨w.heap.size,0,none⟩:Addr).add j)=some u:=by
 intro j u hj
 match j,hj with
 |0,hj=>simp at hj;subst hj;simp[Addr.add]
theorem aC(s:BA):∀u∈[Value.string s],u.oneCell'=true:=by
 intro u hu;simp at hu;subst hu;rfl
theorem Pc{w:World}{B n:Nat}{e:TypeId}{size:Nat}{v:Value}{xs:List Value}(h:w.ownsRow B e size v (n+1) xs):∃g cap,v=.slice (some ⟨g,0,none⟩) (n+1) cap:=by
 rcases h.2 with h'|⟨g,cap,cur,h1,_⟩
 .exact absurd h'.2 (by omega)
 .exact⟨g,cap,h1⟩
def So(D:List (List UInt8)):List Value:=D.map λl=>.string (P.bts l)
theorem oE:(prog.info? 9).map (λi=>(i.zero,i.size,i.bytes))=some (some (.string ⟨#[]⟩),1,16):=by kernel_rfl
theorem gT(t:BA)(w:World)(ht:t.size<=200) :
  Calls prog 120 #[.string t] w λe w'=>∃v,e=.returned (.tuple #[v,.bool ((Ad t 0).all Fj)])/\((Ad t 0).all Fj=true->∃g c,v=.slice (some ⟨g,0,none⟩) (Ad t 0).length c/\w'.ownsRow w.heap.size 9 1 v (Ad t 0).length (So (Ad t 0)))/\Below w.heap.size w w':=by
 obtain⟨i0,hi0,hz0,hz1,hz2⟩:=info_parts oE;go_enter func120,ntmps120
 go_wp2
 go_loopw [4,5] (λv i wr=>∃(k g c:Nat)(D:List (List UInt8)),k<=t.size/\i=.int .i64 k/\v=.slice (some ⟨g,0,none⟩) D.length c/\Hid (Ad t 0=D++Ad t k)/\Hid (D.all Fj=true)/\D.length<=k/\Hid (wr.ownsRow w.heap.size 9 1 (.slice (some ⟨g,0,none⟩) D.length c) D.length (So D))/\Hid (Below w.heap.size w wr)) (λ_ i _=>t.size-(intOf i).toNat)
 case atStart=>exact⟨0,w.heap.size,0,[],zL,rfl,rfl,rfl,rfl,Nat.le_refl _,World.ownsRow_made (base:=w.heap.size) (e:=9) (size:=1) w #[] 0 nL (zL) rfl,(Below.refl _ _).alloc nL _⟩
 case round =>
  obtain⟨k,g,c,D,hk,rfl,rfl,HD,HA,hDk,HO,HB⟩:=hrel;by_cases hlt:k<t.size
  ·have i0':(0:Int)<=(k:Int):=by omega
   have i1':(k:Int)<(t.size:Int):=by omega
   by_cases hb:t[k].toNat=32
   .have HD2:Hid (Ad t 0=D++Ad t (k+1)):=by rw[HD.out,Pu hlt (UInt8.toNat_inj.1 hb)];rfl
    go_wp2
    go_roundw
    case rel=>exact⟨k+1,g,c,D,by omega,by go_num,rfl,HD2,HA,by omega,HO,HB⟩
    case measure=>simp[intOf];omega
   ·have HS32:Hid (t[k]≠32):=λe=>hb (by rw[e];rfl)
    have hsz:=HB.out.size;have hbq:((t[k].toNat:Int)==32)=false:=by simp;omega
    obtain⟨wo,hwo⟩:∃wo,wo=wr:=⟨_,rfl⟩;subst hwo
    go_wp2
    go_loopw [6] (λn wx=>∃m,k<=m/\m<=t.size/\n=.int .i64 m/\Hid (∀c∈cut t k m,P.letter c=true)/\wx=wo) (λn _=>t.size-(intOf n).toNat)
    case atStart=>exact⟨k,Nat.le_refl _,by omega,rfl,(by rw[St];exact(λc h=>by simp at h)),rfl⟩
    case round =>
     obtain⟨m,m1,m2,rfl,HC,hwx⟩:=hrel;have hwx':=hwx.symm;subst hwx';by_cases hml:m<t.size
     ·have j0:(0:Int)<=(m:Int):=by omega
      have j1:(m:Int)<(t.size:Int):=by omega
      cases hL:P.letter t[m]with
      | true =>
       have HL:=iH hL;have HC2:Hid (∀c∈cut t k (m+1),P.letter c=true):=by
        show ∀c∈_,_
        rw[Ur m1 hml];intro c hc;rcases List.mem_append.1 hc with hc|hc
        .exact HC.out c hc
        .simp at hc;rw[hc];exact hL
       clear hL;go_wp2_with(go_at_call 66;refine(Gq _ _).mono ?_;rintro e w' ⟨rfl,hww⟩;have hww':=hww.symm;subst hww';rw[HL.out]);go_roundw
       case rel=>exact⟨m+1,by omega,by omega,by go_num,HC2,trivial⟩
       case measure=>simp[intOf];omega
      | false =>
       have HL:=iH hL;have HST:Hid (∀hk:m<t.size,P.letter t[m]=false):=λ_=>hL
       clear hL;by_cases hkm:m=k
       .subst hkm
        have HTK:Hid (Ad t m=[t[m]]::Ad t (m+1)):=Ml hml HS32 HL;have HOK:Hid (Fj [t[m]]=kV t[m]):=nK HL
        cases hsg:kV t[m]with
        | true =>
         have hsg':t[m].toNat=124\/t[m].toNat=38\/t[m].toNat=33\/t[m].toNat=40\/t[m].toNat=41\/t[m].toNat=61:=of_decide_eq_true hsg;have HD2:Hid (Ad t 0=(D++[cut t m (m+1)])++Ad t (m+1)):=by show _=_;rw[HD.out,HTK.out,lO hml];simp
         have HA2:Hid ((D++[cut t m (m+1)]).all Fj=true):=by show _=_;rw[List.all_append,HA.out,lO hml];simp[HOK.out,hsg]
         clear hsg HTK HOK HD HA hb;have HSG:Hid (t[m].toNat=124\/t[m].toNat=38\/t[m].toNat=33\/t[m].toNat=40\/t[m].toNat=41\/t[m].toNat=61):=hsg';clear hsg';go_upto_region 10 with(go_at_call 66;refine(Gq _ _).mono ?_;rintro e w' ⟨rfl,hww⟩;have hww':=hww.symm;subst hww';rw[HL.out])
         go_cut [67] (λb wy=>b=.bool false/\wy=wo)
         case first =>
          rcases HSG.out with hc|hc|hc|hc|hc|hc
          all_goals
           go_wp2
           go_meet;exact⟨rfl,rfl⟩
         case rest =>
          obtain⟨rfl,hwc⟩:=hcut;have hwc':=hwc.symm;subst hwc';go_upto_region 13 with fail;have hnm:((m:Int)+1)=((m+1:Nat):Int):=by omega
          have hn2:m<m+1/\m+1<=t.size:=by omega
          rw[hnm];clear hnm;generalize m+1=n at *;obtain⟨hn3,hn4⟩:=hn2;have e1:(0:Int)<=(m:Int):=by omega
          have e2:(m:Int)<=(n:Int):=by omega
          have e3:(n:Int)<=(t.size:Int):=by omega
          go_wp2_with(at_builtin;refine wpList_append_own_at _ rfl (.tmp 71) (.tmp 76) 28 rfl w.heap.size 9 i0 (.string ⟨#[]⟩) 1 16 underlying28 hi0 hz0 hz1 hz2 rfl (by decide) _ D.length (So D) rfl (HO.out.alloc _) ⟨wo.heap.size,0,none⟩ 1 1 [.string (t.extract m n)] rfl rfl (Tq _ _ _) (aC _) (by unfold maxLen;omega) (by omega) (by simp;omega) ?_;intro v' w7 hown7 hgrow7 _ _;obtain⟨g2,c2,rfl⟩:=Pc hown7);have HO2:Hid (w7.ownsRow w.heap.size 9 1 (.slice (some ⟨g2,0,none⟩) (D++[cut t m n]).length c2) (D++[cut t m n]).length (So (D++[cut t m n]))):=by
           have h7:=hown7;rw[Kw]at h7;show World.ownsRow _ _ _ _ _ _ _
           simpa[So]using h7
          have HB2:Hid (Below w.heap.size w w7):=(HB.out.alloc hsz _).grown hgrow7 (by simp;omega) (λj hj=>by cases hj;exact(HO.out.lt g rfl).1);clear hown7 hgrow7
          go_wp2
          go_roundw
          case rel=>exact⟨n,g2,c2,D++[cut t m n],by omega,by go_num,by simp,HD2,HA2,by simp;omega,HO2,HB2⟩
          case measure=>simp[intOf];omega
        | false =>
         have hsg':¬(t[m].toNat=124\/t[m].toNat=38\/t[m].toNat=33\/t[m].toNat=40\/t[m].toNat=41\/t[m].toNat=61):=of_decide_eq_false hsg;have HF:Hid ((Ad t 0).all Fj=false):=by show _=_;rw[HD.out,List.all_append,HTK.out,List.all_cons,HOK.out,hsg];simp
         have c1:¬(t[m].toNat:Int)=124:=by omega
         have c2:¬(t[m].toNat:Int)=38:=by omega
         have c3:¬(t[m].toNat:Int)=33:=by omega
         have c4:¬(t[m].toNat:Int)=40:=by omega
         have c5:¬(t[m].toNat:Int)=41:=by omega
         have c6:¬(t[m].toNat:Int)=61:=by omega
         clear hsg hsg' HTK HOK HD HA;go_upto_region 10 with(go_at_call 66;refine(Gq _ _).mono ?_;rintro e w' ⟨rfl,hww⟩;have hww':=hww.symm;subst hww';rw[HL.out])
         go_cut [67] (λb wy=>b=.bool true/\wy=wo)
         case first =>
          go_wp2_with fail
          all_goals go_meet
          refine⟨?_,rfl⟩;simp;omega
         case rest =>
         obtain⟨rfl,hwc⟩:=hcut;have hwc':=hwc.symm;subst hwc'
         go_wp2
         go_ret2
         refine⟨_,(by rw[HF.out];rfl),?_,HB⟩;intro h
         exfalso
         first|(rw[HF.out]at h;cases h)|(rw[<-List.all_eq_true,HF.out]at h;cases h)
       .have hkm':¬(m:Int)=(k:Int):=by omega
        have HTK:Hid (Ad t k=cut t k m::Ad t m):=bG (by omega) m2 HC HST;have HD2:Hid (Ad t 0=(D++[cut t k m])++Ad t m):=by show _=_;rw[HD.out,HTK.out];simp
        have HA2:Hid ((D++[cut t k m]).all Fj=true):=by show _=_;rw[List.all_append,HA.out];simp[Qt (tN (by omega) m2) HC.out]
        clear HTK HD HA hb;go_wp2_with(first|(go_at_call 66;refine(Gq _ _).mono ?_;rintro e w' ⟨rfl,hww⟩;have hww':=hww.symm;subst hww';rw[HL.out])|(at_builtin;refine wpList_append_own_at _ rfl (.tmp 71) (.tmp 76) 28 rfl w.heap.size 9 i0 (.string ⟨#[]⟩) 1 16 underlying28 hi0 hz0 hz1 hz2 rfl (by decide) _ D.length (So D) rfl (HO.out.alloc _) ⟨wo.heap.size,0,none⟩ 1 1 [.string (t.extract k m)] rfl rfl (Tq _ _ _) (aC _) (by unfold maxLen;omega) (by omega) (by simp;omega) ?_;intro v' w7 hown7 hgrow7 _ _;obtain⟨g2,c2,rfl⟩:=Pc hown7));have HO2:Hid (w7.ownsRow w.heap.size 9 1 (.slice (some ⟨g2,0,none⟩) (D++[cut t k m]).length c2) (D++[cut t k m]).length (So (D++[cut t k m]))):=by
         have h7:=hown7;rw[Kw]at h7;show World.ownsRow _ _ _ _ _ _ _
         simpa[So]using h7
        have HB2:Hid (Below w.heap.size w w7):=(HB.out.alloc hsz _).grown hgrow7 (by simp;omega) (λj hj=>by cases hj;exact(HO.out.lt g rfl).1);clear hown7 hgrow7
        go_wp2
        go_roundw
        case rel=>exact⟨m,g2,c2,D++[cut t k m],by omega,by go_num,by simp,HD2,HA2,by simp;omega,HO2,HB2⟩
        case measure=>simp[intOf];omega
     .have hme:m=t.size:=by omega
      have HST:Hid (∀hk:m<t.size,P.letter t[m]=false):=λh=>absurd h hml
      have hkm':¬(m:Int)=(k:Int):=by omega
      have HTK:Hid (Ad t k=cut t k m::Ad t m):=bG (by omega) m2 HC HST;have HD2:Hid (Ad t 0=(D++[cut t k m])++Ad t m):=by show _=_;rw[HD.out,HTK.out];simp
      have HA2:Hid ((D++[cut t k m]).all Fj=true):=by show _=_;rw[List.all_append,HA.out];simp[Qt (tN (by omega) m2) HC.out]
      clear HTK HD HA hb hme HST;have hml':¬(m:Int)<(t.size:Int):=by omega
      clear hml;go_wp2_with(at_builtin;refine wpList_append_own_at _ rfl (.tmp 71) (.tmp 76) 28 rfl w.heap.size 9 i0 (.string ⟨#[]⟩) 1 16 underlying28 hi0 hz0 hz1 hz2 rfl (by decide) _ D.length (So D) rfl (HO.out.alloc _) ⟨wo.heap.size,0,none⟩ 1 1 [.string (t.extract k m)] rfl rfl (Tq _ _ _) (aC _) (by unfold maxLen;omega) (by omega) (by simp;omega) ?_;intro v' w7 hown7 hgrow7 _ _;obtain⟨g2,c2,rfl⟩:=Pc hown7);have HO2:Hid (w7.ownsRow w.heap.size 9 1 (.slice (some ⟨g2,0,none⟩) (D++[cut t k m]).length c2) (D++[cut t k m]).length (So (D++[cut t k m]))):=by
       have h7:=hown7;rw[Kw]at h7;show World.ownsRow _ _ _ _ _ _ _
       simpa[So]using h7
      have HB2:Hid (Below w.heap.size w w7):=(HB.out.alloc hsz _).grown hgrow7 (by simp;omega) (λj hj=>by cases hj;exact(HO.out.lt g rfl).1);clear hown7 hgrow7
      go_wp2
      go_roundw
      case rel=>exact⟨m,g2,c2,D++[cut t k m],by omega,by go_num,by simp,HD2,HA2,by simp;omega,HO2,HB2⟩
      case measure=>simp[intOf];omega
  .have hke:k=t.size:=by omega
   have HE:Hid (Ad t 0=D):=by rw[HD.out,Im (by omega),List.append_nil];rfl
   go_wp2
   go_ret2
   exact⟨_,by rw[HE.out,HA.out];rfl,λ_=>⟨g,c,by rw[HE.out];rfl,by rw[HE.out];exact HO.out⟩,HB⟩
structure PsAt (w:World) (p g c:Nat) (L:List (List UInt8)) (i:Nat) (bad:Bool):Prop where
 c0:w.cell? ⟨p,0,none⟩=some (.slice (some ⟨g,0,none⟩) L.length c)
 c1:w.cell? ⟨p,1,none⟩=some (.int .i64 i)
 c2:w.cell? ⟨p,2,none⟩=some (.bool bad)
 f1:w.frozen? ⟨p,1,none⟩=false
 f2:w.frozen? ⟨p,2,none⟩=false
 ne:g≠p
 lt:g<w.heap.size
 row:∀j l,L[j]?=some l->w.cell? ⟨g,j,none⟩=some (.string (P.bts l))
theorem PsAt.below{w w':World}{p g c:Nat}{L:List (List UInt8)}{i:Nat}{b:Bool}(h:PsAt w p g c L i b)(hb:Below w.heap.size w w'):PsAt w' p g c L i b:=by
 have hp:p<w.heap.size:=block_lt_of_cell h.c0
 exact⟨(hb.cell (p:=⟨p,0,none⟩) hp).trans h.c0,(hb.cell (p:=⟨p,1,none⟩) hp).trans h.c1,(hb.cell (p:=⟨p,2,none⟩) hp).trans h.c2,(hb.frozen (p:=⟨p,1,none⟩) hp).trans h.f1,(hb.frozen (p:=⟨p,2,none⟩) hp).trans h.f2,h.ne,lL h.lt hb.size,
  λj l hj=>(hb.cell (p:=⟨g,j,none⟩) h.lt).trans (h.row j l hj)⟩
theorem PsAt.drew{w:World}{p g c:Nat}{L:List (List UInt8)}{i:Nat}{b:Bool}(h:PsAt w p g c L i b):PsAt w.drew p g c L i b:=⟨h.c0,h.c1,h.c2,h.f1,h.f2,h.ne,h.lt,h.row⟩
theorem PsAt.plt{w:World}{p g c:Nat}{L:List (List UInt8)}{i:Nat}{b:Bool}(h:PsAt w p g c L i b):p<w.heap.size:=block_lt_of_cell h.c0
theorem Mn{w:World}{p g o j:Nat}{v:Value}(h:g≠p):(w.setCell ⟨p,o,none⟩ v).cell? ⟨g,j,none⟩=w.cell? ⟨g,j,none⟩ :=
 World.cell?_of_block (w:=w) (a:=⟨g,j,none⟩) (Below.heap_setCell w ⟨p,o,none⟩ v g h)
theorem PsAt.at{w:World}{p g c:Nat}{L:List (List UInt8)}{i:Nat}{b:Bool}(h:PsAt w p g c L i b):PsAt (w.setCell ⟨p,1,none⟩ (.int .i64 ((i:Int)+1))) p g c L (i+1) b:=by
 obtain⟨c0,c1,c2,f1,f2,ne,lt,row⟩:=h;refine⟨by simp[go_sem,c0],by simp[go_sem,c1],by simp[go_sem,c2],by simp[go_sem,f1],by simp[go_sem,f2],ne,by simpa[World.setCell]using lt,λj l hj=>(Mn ne).trans (row j l hj)⟩
theorem PsAt.bad{w:World}{p g c:Nat}{L:List (List UInt8)}{i:Nat}{b:Bool}(h:PsAt w p g c L i b):PsAt (w.setCell ⟨p,2,none⟩ (.bool true)) p g c L i true:=by
 obtain⟨c0,c1,c2,f1,f2,ne,lt,row⟩:=h;refine⟨by simp[go_sem,c0],by simp[go_sem,c1],by simp[go_sem,c2],by simp[go_sem,f1],by simp[go_sem,f2],ne,by simpa[World.setCell]using lt,λj l hj=>(Mn ne).trans (row j l hj)⟩
theorem xI(a b:List UInt8):((P.bts a).toList==(P.bts b).toList)=decide (a=b):=by
 rw[ByteArray.toList_eq,ByteArray.toList_eq,Bool.eq_iff_iff];simp[P.bts]
theorem vN(s:UInt8)(L:List (List UInt8))(i:Nat):(P.tk s (L.drop i)).isSome=(match L[i]? with|some l=>decide (l=[s])|none=>false):=by
 by_cases h:i<L.length
 .rw[List.drop_eq_getElem_cons h,gE h]
  by_cases e:L[i]=[s]
  .simp[P.tk,e]
  .simp[P.tk,e]
 .rw[List.drop_eq_nil_of_le (by omega),List.getElem?_eq_none (by omega)]
  rfl
theorem yQ(p g c:Nat)(L:List (List UInt8))(i:Nat)(b:Bool)(s:UInt8)(w:World)(h:PsAt w p g c L i b)(hi:i<=L.length) :
  Calls prog 182 #[.pointer (some ⟨p,0,none⟩),.string ⟨#[s]⟩] w λe w'=>e=.returned (.bool (P.tk s (L.drop i)).isSome)/\w'=w.drew:=by
 have HP:=iH h;obtain⟨c0,c1,c2,_,_,_,_,row⟩:=h;rw[vN];by_cases hlt:i<L.length
 .have r0:=row i _ (gE hlt)
  have i0:(0:Int)<=(i:Int):=by omega
  have i1:(i:Int)<(L.length:Int):=by omega
  have HE:Hid ((match L[i]? with|some l=>decide (l=[s])|none=>false)=decide (L[i]=[s])):=by rw[gE hlt];rfl
  rw[HE.out];clear row HE c2;have HB:Hid (((P.bts L[i]).toList==(⟨#[s]⟩:BA).toList)=decide (L[i]=[s])):=xI L[i] [s];generalize P.bts L[i]=T at *;go_enter func182,ntmps182;go_wp2_with fail
  go_region
  go_wp2
  go_ret;exact⟨Ab (by have:=HB.out;simpa using this),rfl⟩
 .have HE:Hid ((match L[i]? with|some l=>decide (l=[s])|none=>false)=false):=by rw[List.getElem?_eq_none (by omega)];rfl
  rw[HE.out];have i1:¬(i:Int)<(L.length:Int):=by omega
  clear row HE c2;go_enter func182,ntmps182;go_wp2_with fail
  go_region
  go_wp2
  go_ret;exact⟨rfl,rfl⟩
theorem Ib(p g c:Nat)(L:List (List UInt8))(i:Nat)(b:Bool)(s:UInt8)(w:World)(h:PsAt w p g c L i b)(hi:i<=L.length)(hl:L.length<=200) :
  Calls prog 154 #[.pointer (some ⟨p,0,none⟩),.string ⟨#[s]⟩] w λe w'=>∃k,e=.returned (.bool (P.tk s (L.drop i)).isSome)/\i<=k/\k<=L.length/\L.drop k=(P.tk s (L.drop i)).getD (L.drop i)/\((P.tk s (L.drop i)).isSome=true->k=i+1)/\((P.tk s (L.drop i)).isSome=false->k=i)/\PsAt w' p g c L k b/\But p w.heap.size w w':=by
 have HP:=iH h;clear h;go_enter func154,ntmps154;go_wp2_with fail;refine(yQ p g c L i b s _ HP hi).mono ?_;rintro e w1⟨rfl,rfl⟩;have H1:Hid (PsAt w.drew p g c L i b):=HP.out.drew;have HB:Hid (But p w.heap.size w w.drew):=(But.refl _ _ _).drew;generalize w.drew=w1 at *
 cases hT:P.tk s (L.drop i)with
 |none =>
  have HT:=iH hT;clear hT
  go_wp2
  go_ret;exact⟨i,(by rw[HT.out];rfl),Nat.le_refl _,hi,(by rw[HT.out];rfl),(λh=>by rw[HT.out]at h;cases h),(λ_=>rfl),H1,HB⟩
 | some r =>
  have hlt:i<L.length:=by
   have:=P.tk_some hT;have h2:(L.drop i).length=r.length+1:=by rw[this];rfl
   rw[List.length_drop]at h2;omega
  have HR:Hid (L.drop (i+1)=r):=by
   have h3:=P.tk_some hT;rw[List.drop_eq_getElem_cons hlt]at h3;injection h3
  have HT:=iH hT;clear hT;obtain⟨c0,c1,c2,f1,f2,_,_,_⟩:=H1.out
  go_wp2
  go_ret;exact⟨i+1,(by rw[HT.out];rfl),by omega,by omega,(by rw[HT.out,HR.out];rfl),(λ_=>rfl),(λh=>by rw[HT.out]at h;cases h),H1.out.at,HB.out.set _ _⟩
theorem Zq{L:List (List UInt8)}{i:Nat}(h:i<L.length)(e:P.nmB L[i]=true):P.nm (L.drop i)=some (L[i],L.drop (i+1)):=by
 rw[List.drop_eq_getElem_cons h];simp[P.nm,e]
theorem Po{L:List (List UInt8)}{i:Nat}(h:∀hi:i<L.length,P.nmB L[i]=false):P.nm (L.drop i)=none:=by
 by_cases hi:i<L.length
 .rw[List.drop_eq_getElem_cons hi]
  simp[P.nm,h hi]
 .rw[List.drop_eq_nil_of_le (by omega)]
  rfl
theorem Xv(p g c:Nat)(L:List (List UInt8))(i:Nat)(w:World)(h:PsAt w p g c L i false)(hi:i<=L.length)(hl:L.length<=200)(hz:∀l∈L,l.length<=200) :
  Calls prog 200 #[.pointer (some ⟨p,0,none⟩)] w λe w' =>
   (∃n,P.nm (L.drop i)=some (n,L.drop (i+1))/\i<L.length/\e=.returned (.string (P.bts n))/\PsAt w' p g c L (i+1) false/\But p w.heap.size w w') \/
   (P.nm (L.drop i)=none/\e=.returned (.string ⟨#[]⟩)/\PsAt w' p g c L i true/\But p w.heap.size w w'):=by
 have HP:=iH h;obtain⟨c0,c1,c2,f1,f2,_,_,row⟩:=h;by_cases hlt:i<L.length
 .have r0:=row i _ (gE hlt)
  have i0:(0:Int)<=(i:Int):=by omega
  have i1:(i:Int)<(L.length:Int):=by omega
  have hsz:(P.bts L[i]).size<=maxLen:=by
   have:=hz L[i] (List.getElem_mem hlt);unfold maxLen P.bts;simp[ByteArray.size];omega
  have HQ:Hid (P.nameOk (P.bts L[i])=P.nmB L[i]):=P.nmB_eq _;have HY:Hid (P.nmB L[i]=true->P.nm (L.drop i)=some (L[i],L.drop (i+1))):=Zq hlt;have HN:Hid (P.nmB L[i]=false->P.nm (L.drop i)=none):=λe=>Po (λ_=>e)
  have k0:=cell_regrown c0;have k1:=cell_regrown c1;have k2:=cell_regrown r0;clear row c2
  cases hq:P.nmB L[i]with
  | true =>
   have HY':Hid (P.nm (L.drop i)=some (L[i],L.drop (i+1))):=HY.out hq;have cE:∀d os,Calls prog 37 #[.string (P.bts L[i])] (Sort.grow (redrawn w d) os) λe w''=>e=.returned (.bool true)/\∃p:Regrown,w''=Sort.grow (redrawn w p.d) p.os:=λd os=>(Be (P.bts L[i]) _ hsz).mono (by rintro e w' ⟨rfl,rfl⟩;exact⟨by rw[HQ.out,hq],⟨d,os⟩,rfl⟩)
   clear hq HY HN HQ hz hsz c0 c1 r0 f1 f2;generalize hT:P.bts L[i]=T at *;have HT:=iH hT;clear hT;go_enter func200,ntmps200;go_wp2_with fail;refine wp_region_quiet_below (by kernel_rfl) (by kernel_rfl) ?_
   repeat(quiet_step (first|exact cE _ _))
   refine wpQuiet_nil ?_;intro wq hw';obtain⟨⟨dq,osq⟩,hw''⟩:=hw';have hbq:Below w.heap.size w wq:=by
    simp only[]at hw'';rw[hw''];exact below_regrown w dq osq
   have G:Hid (PsAt wq p g c L i false):=HP.out.below hbq;have GB:Hid (But p w.heap.size w wq):=But.of_below hbq;clear hw'' hbq cE k0 k1 k2;have G1:Hid (PsAt (wq.setCell ⟨p,1,none⟩ (.int .i64 ((i:Int)+1))) p g c L (i+1) false):=G.out.at;have r1:(wq.setCell ⟨p,1,none⟩ (.int .i64 ((i:Int)+1))).cell? ⟨g,i,none⟩=some (.string T):=by rw[<-HT.out];exact G1.out.row i _ (gE hlt)
   obtain⟨d0,d1,d2,e1,e2,_,_,_⟩:=G.out;obtain⟨x0,x1,x2,_,_,_,_,_⟩:=G1.out;go_upto_region 5 with fail;have GB1:Hid (But p w.heap.size w (wq.setCell ⟨p,1,none⟩ (.int .i64 ((i:Int)+1)))):=GB.out.set _ _;clear d0 d1 d2 e1 e2;generalize wq.setCell ⟨p,1,none⟩ (.int .i64 ((i:Int)+1))=w8 at *
   go_region
   go_wp2
   go_ret;exact .inl ⟨_,HY'.out,hlt,by rw[HT.out];rfl,G1.out.drew,GB1.out.drew⟩
  | false =>
   have HN':Hid (P.nm (L.drop i)=none):=HN.out hq;have cE:∀d os,Calls prog 37 #[.string (P.bts L[i])] (Sort.grow (redrawn w d) os) λe w''=>e=.returned (.bool false)/\∃p:Regrown,w''=Sort.grow (redrawn w p.d) p.os:=λd os=>(Be (P.bts L[i]) _ hsz).mono (by rintro e w' ⟨rfl,rfl⟩;exact⟨by rw[HQ.out,hq],⟨d,os⟩,rfl⟩)
   clear hq HY HN HQ hz hsz c0 c1 r0 f1 f2;generalize P.bts L[i]=T at *;go_enter func200,ntmps200;go_wp2_with fail;refine wp_region_quiet_below (by kernel_rfl) (by kernel_rfl) ?_
   repeat(quiet_step (first|exact cE _ _))
   refine wpQuiet_nil ?_;intro wq hw';obtain⟨⟨dq,osq⟩,hw''⟩:=hw';have hbq:Below w.heap.size w wq:=by
    simp only[]at hw'';rw[hw''];exact below_regrown w dq osq
   have G:Hid (PsAt wq p g c L i false):=HP.out.below hbq;have GB:Hid (But p w.heap.size w wq):=But.of_below hbq;clear hw'' hbq cE k0 k1 k2;obtain⟨d0,d1,d2,e1,e2,_,_,_⟩:=G.out
   go_wp2
   go_ret;exact .inr ⟨HN'.out,rfl,G.out.bad,GB.out.set _ _⟩
 .have HN':Hid (P.nm (L.drop i)=none):=Po (λh=>absurd h hlt)
  have i1:¬(i:Int)<(L.length:Int):=by omega
  clear row hz;go_enter func200,ntmps200;go_wp2_with fail
  go_region
  have G:Hid (PsAt w.drew p g c L i false):=HP.out.drew;have GB:Hid (But p w.heap.size w w.drew):=(But.refl _ _ _).drew;clear c0 c1 c2 f1 f2;generalize w.drew=wq at *;obtain⟨d0,d1,d2,e1,e2,_,_,_⟩:=G.out
  go_wp2
  go_ret;exact .inr ⟨HN'.out,rfl,G.out.bad,GB.out.set _ _⟩
def ndv(n:P.Nd):List Value:=[.int .i64 n.kind,.string n.name,.string n.value,.int .i64 n.kids]
def Cn(ns:List P.Nd):List Value:=ns.flatMap ndv
theorem yD:Cn []=[]:=rfl
theorem Ig(a b:List P.Nd):Cn (a++b)=Cn a++Cn b:=by simp[Cn]
theorem Ma:∀ns:List P.Nd,(Cn ns).length=ns.length*4
 |[]=>rfl
 |n::r=>by
  have:=Ma r;simp[Cn,ndv]at this⊢;omega
theorem Ms:∀(ns:List P.Nd),∀u∈Cn ns,u.oneCell'=true
 |[],u,h=>by cases h
 | n::r,u,h=>by
  rw[show n::r=[n]++r from rfl,Ig]at h;rcases List.mem_append.1 h with h|h
  .simp[Cn,ndv]at h
   rcases h with rfl|rfl|rfl|rfl<;>rfl
  .exact Ms r u h
def NdRow(w:World)(B:Nat)(v:Value)(ns:List P.Nd):Prop:=∃g cap,v=.slice (some ⟨g,0,none⟩) ns.length cap/\B<=g/\g<w.heap.size/\w.rangeAt g 0 (Cn ns)
theorem NdRow.but{w w':World}{B B' p:Nat}{v:Value}{ns:List P.Nd}(h:NdRow w B v ns)(hb:But p B' w w')(hB:w.heap.size<=B')(hp:p<B):NdRow w' B v ns:=by
 obtain⟨g,cap,h1,h2,h3,h4⟩:=h;refine⟨g,cap,h1,h2,lL h3 hb.size,λj u hj=>?_⟩;exact(World.cell?_of_block (w:=w) (a:=⟨g,0+j,none⟩) (hb.block g (by omega) (by omega))).trans (h4 j u hj)
theorem NdRow.below{w w':World}{B B':Nat}{v:Value}{ns:List P.Nd}(h:NdRow w B v ns)(hb:Below B' w w')(hB:w.heap.size<=B'):NdRow w' B v ns:=by
 obtain⟨g,cap,h1,h2,h3,h4⟩:=h;refine⟨g,cap,h1,h2,lL h3 hb.size,λj u hj=>?_⟩;exact(hb.cell (p:=⟨g,0+j,none⟩) (show g<B' by omega)).trans (h4 j u hj)
theorem NdRow.mono{w:World}{B B':Nat}{v:Value}{ns:List P.Nd}(h:NdRow w B v ns)(hB:B'<=B):NdRow w B' v ns:=by
 obtain⟨g,cap,h1,h2,h3,h4⟩:=h;exact⟨g,cap,h1,by omega,h3,h4⟩
theorem mR{w:World}{B g c:Nat}{e:TypeId}{ns:List P.Nd}(h:w.ownsRow B e 4 (.slice (some ⟨g,0,none⟩) ns.length c) ns.length (Cn ns)):NdRow w B (.slice (some ⟨g,0,none⟩) ns.length c) ns:=by
 refine⟨g,c,rfl,(h.lt g rfl).1,(h.lt g rfl).2,λj u hj=>?_⟩;have hlt:=Ac hj;rw[Ma]at hlt;rw[Nat.zero_add];exact(h.cellAt j (by omega)).trans hj
theorem vM:(prog.info? 184).map (λi=>(i.zero,i.size,i.bytes))=some (some (.agg #[.int .i64 0,.string ⟨#[]⟩,.string ⟨#[]⟩,.int .i64 0]),4,48):=by kernel_rfl
theorem lQ(w:World)(n:P.Nd)(T:TypeId):∀j u,(ndv n)[j]?=some u->(w.alloc (.cells #[.int .i64 n.kind,.string n.name,.string n.value,.int .i64 n.kids] T)).cell? ((⟨w.heap.size,0,none⟩:Addr).add j)=some u:=by
 intro j u hj;rw[Addr.add_mid];have hlt:=Ac hj;have hr:(w.alloc (.cells #[.int .i64 n.kind,.string n.name,.string n.value,.int .i64 n.kids] T)).rangeAt w.heap.size 0 (ndv n):=Aa (by simp) (Aa (by simp) (Aa (by simp) (Aa (by simp) (Ao _ _ _))));exact hr j u hj
theorem vP(n:P.Nd):∀u∈ndv n,u.oneCell'=true:=λu hu=>Ms [n] u (by simpa[Cn]using hu)
def PartsAt(w:World)(q:Nat)(Ps:List (List P.Nd)):Prop:=∀j ns,Ps[j]?=some ns->∃v,w.cell? ⟨q,j,none⟩=some v/\NdRow w 0 v ns
theorem PartsAt.below{w w':World}{q:Nat}{Ps:List (List P.Nd)}(h:PartsAt w q Ps)(hb:Below w.heap.size w w'):PartsAt w' q Ps:=by
 intro j ns hj;obtain⟨v,h1,h2⟩:=h j ns hj;exact⟨v,(hb.cell (p:=⟨q,j,none⟩) (block_lt_of_cell h1)).trans h1,h2.below hb nL⟩
theorem Zd{α:Type}:∀(Ps:List (List α))(j:Nat)(x:List α),Ps[j]?=some x->(Ps.take (j+1)).flatten=(Ps.take j).flatten++x
 |[],_,_,h=>by simp at h
 |y::r,0,x,h=>by simp at h;subst h;simp
 |y::r,j+1,x,h=>by
  simp at h;have:=Zd r j x h;simp at this⊢;rw[this]
theorem kW{α:Type}:∀(Ps:List (List α))(j:Nat),(Ps.take j).flatten.length<=Ps.flatten.length
 |[],_=>by simp
 |y::r,0=>by simp
 |y::r,j+1=>by
  have:=kW r j;simp only[List.take_succ_cons,List.flatten_cons,List.length_append];omega
theorem Wj(kind kids:Int)(q:Nat)(Ps:List (List P.Nd))(w:World)(h:PartsAt w q Ps)(hl:Ps.length<=10)(hf:Ps.flatten.length<=1000) :
  Calls prog 155 #[.int .i64 kind,.int .i64 kids,.slice (some ⟨q,0,none⟩) Ps.length Ps.length] w λe w'=>∃v,e=.returned v/\NdRow w' w.heap.size v (Ps.flatten++[⟨kind,⟨#[]⟩,⟨#[]⟩,kids⟩])/\Below w.heap.size w w':=by
 obtain⟨i0,hi0,hz0,hz1,hz2⟩:=info_parts vM;have HP:=iH h;clear h;go_enter func155,ntmps155
 go_wp2
 go_loopw [7,8] (λv i wr=>∃(j g c n:Nat),j<=Ps.length/\i=.int .i64 j/\v=.slice (some ⟨g,0,none⟩) n c/\n<=1000/\Hid ((Ps.take j).flatten.length=n)/\Hid (wr.ownsRow w.heap.size 184 4 (.slice (some ⟨g,0,none⟩) n c) n (Cn (Ps.take j).flatten))/\Hid (Below w.heap.size w wr)) (λ_ i _=>Ps.length-(intOf i).toNat)
 case atStart=>exact⟨0,w.heap.size,0,0,zL,rfl,rfl,zL,by simp;trivial,World.ownsRow_made (base:=w.heap.size) (e:=184) (size:=4) w #[] 0 nL (zL) rfl,(Below.refl _ _).alloc nL _⟩
 case round =>
  obtain⟨j,g,c,n,hj,rfl,rfl,hn,HL,HO,HB⟩:=hrel;have hsz:=HB.out.size;by_cases hlt:j<Ps.length
  .obtain⟨ns,hns⟩:=gXe hlt
   obtain⟨v1,r1,g1,c1,rfl,_,hg1,hr1⟩:=(HP.out.below HB) j ns hns;have HF:Hid ((Ps.take (j+1)).flatten=(Ps.take j).flatten++ns):=Zd Ps j ns hns;have hle:Hid (n+ns.length<=1000):=by
    show _<=_
    have h1:=kW Ps (j+1);rw[HF.out,List.length_append,HL.out]at h1;omega
   have HR1:Hid (∀i u,(Cn ns)[i]?=some u->wr.cell? ((⟨g1,0,none⟩:Addr).add i)=some u):=λi u hi=>by rw[Addr.add_mid];exact hr1 i u hi
   have hle':=hle.out;clear hns hr1;go_wp2_with(at_builtin;refine wpList_append_own_at _ rfl (.tmp 16) (.tmp 20) 156 rfl w.heap.size 184 i0 _ 4 48 underlying156 hi0 hz0 hz1 hz2 rfl (by decide) _ n _ rfl HO ⟨g1,0,none⟩ ns.length c1 (Cn ns) rfl (Ma ns) HR1 (Ms ns) (by unfold maxLen;omega) (by omega) hsz ?_;intro v' w7 hown7 hgrow7 hnil _);rcases hown7.2 with h'|⟨g2,c2,_,hv2,_⟩
   .exact absurd (hnil.1 h'.1).1 (λh=>by cases h)
   subst hv2;have HO2:Hid (w7.ownsRow w.heap.size 184 4 (.slice (some ⟨g2,0,none⟩) (n+ns.length) c2) (n+ns.length) (Cn (Ps.take (j+1)).flatten)):=by
    rw[HF.out,Ig];exact hown7
   have HL2:Hid ((Ps.take (j+1)).flatten.length=n+ns.length):=by rw[HF.out,List.length_append,HL.out];rfl
   have HB2:Hid (Below w.heap.size w w7):=HB.out.grown hgrow7 hsz (λi hi=>by cases hi;exact(HO.out.lt g rfl).1);clear hown7 hgrow7 hnil
   go_wp2
   go_roundw
   case rel=>exact⟨j+1,g2,c2,n+ns.length,by omega,by go_num,rfl,hle',HL2,HO2,HB2⟩
   case measure=>simp[intOf];omega
  .have hje:j=Ps.length:=by omega
   have HD:Hid ((Ps.take j).flatten=Ps.flatten):=by rw[hje,List.take_length];rfl
   have HO':Hid (wr.ownsRow w.heap.size 184 4 (.slice (some ⟨g,0,none⟩) n c) n (Cn Ps.flatten)):=by rw[<-HD.out];exact HO.out
   have HL':Hid (Ps.flatten.length=n):=by rw[<-HD.out];exact HL.out
   have i1:¬(j:Int)<(Ps.length:Int):=by omega
   clear hje HD HL HO;go_wp2_with(at_builtin;refine wpList_append_own_at _ rfl (.tmp 22) (.tmp 26) 156 rfl w.heap.size 184 i0 _ 4 48 underlying156 hi0 hz0 hz1 hz2 rfl (by decide) _ n _ rfl (HO'.out.alloc _) ⟨wr.heap.size,0,none⟩ 1 1 (ndv ⟨kind,⟨#[]⟩,⟨#[]⟩,kids⟩) rfl rfl (lQ _ _ _) (vP _) (by unfold maxLen;omega) (by omega) (by simp;omega) ?_;intro v' w7 hown7 hgrow7 _ _;obtain⟨g2,c2,rfl⟩:=Pc hown7);have HO2:Hid (w7.ownsRow w.heap.size 184 4 (.slice (some ⟨g2,0,none⟩) (Ps.flatten++[(⟨kind,⟨#[]⟩,⟨#[]⟩,kids⟩:P.Nd)]).length c2) (Ps.flatten++[(⟨kind,⟨#[]⟩,⟨#[]⟩,kids⟩:P.Nd)]).length (Cn (Ps.flatten++[⟨kind,⟨#[]⟩,⟨#[]⟩,kids⟩]))):=by
    rw[Ig,List.length_append,HL'.out];exact hown7
   have HB2:Hid (Below w.heap.size w w7):=(HB.out.alloc hsz _).grown hgrow7 (by simp;omega) (λi hi=>by cases hi;exact(HO'.out.lt g rfl).1);have hlen:Hid ((Ps.flatten++[(⟨kind,⟨#[]⟩,⟨#[]⟩,kids⟩:P.Nd)]).length=n+1):=by rw[List.length_append,HL'.out];rfl
   clear hown7 hgrow7
   go_wp2
   go_ret;refine⟨_,rfl,?_,HB2⟩;have:=mR HO2;rw[hlen.out]at this;exact this
end Go.Proofs.YtpidfnfilnkhkaaGreat
