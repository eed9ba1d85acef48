import Derived.Test.YtpidfnfilnkhkaaGreatJ48
set_option maxHeartbeats 8000000
set_option maxRecDepth 100000
namespace Go.Proofs.YtpidfnfilnkhkaaGreat
open Go.RowKit Go.WideMaps Go.Maps Tryz
theorem Qn{x:Flt}(h:SzC x.copies)(l:List Nat):kY (Ct x l) maxLen:=by
 intro s hs;obtain⟨t,_,rfl⟩:=List.mem_map.1 hs;unfold Lv
 cases e:x.copies[t]? with
 |none=>exact zL
 |some c=>exact(h c (List.mem_of_getElem? e)).1
theorem L3In.grown{B:Nat}{x:Flt}{a1:OA}{c1:Nat}{a2:OA}{c2:Nat}{a3:OA}{c3:Nat}{y:Cpy}{a7:OA}{c7:Nat}{b:Brt}{am:OA}{cm:Nat}{w w':World}{row:Option Nat}(h:L3In B x a1 c1 a2 c2 a3 c3 y a7 c7 b am cm w)(hg:w.grownBy w' row)(hr:∀r,row=some r->B+1+1<r):L3In B x a1 c1 a2 c2 a3 c3 y a7 c7 b am cm w' :=
 ⟨h.1.grown hg (λe=>by have:=hr _ e.symm;omega),h.2.1.grown hg (λe=>by have:=hr _ e.symm;omega),h.2.2.grown hg (λe=>by have:=hr _ e.symm;omega)⟩
theorem Tw(l:List BA)(s:BA):He (l++[s])=He l++[.string s]:=List.map_append
theorem uZ(n:Int)(h:-9223372036854775808<=n/\n<=9223372036854775807):IntKind.i64.wrap n=n:=by rw[IntKind.wrap_i64];omega
def BN(x:Flt)(ci:Nat)(y:Cpy)(b:Brt)(w:World)(e:Ending)(w':World):Prop:=∃(g:List Nat)(found:Bool)(d:OA)(q:Nat),e=.returned (.tuple #[.slice d (Ct x g).length q,.bool found])/\BestTo (rkV x) (Bc x y b) (okV x ci y b) (2^(Bc x y b).length) g found/\SliceC StrC 1 w.heap.size w' d (Ct x g)/\Below w.heap.size w w'
theorem Xb(lo ci bi:Nat)(x:Flt)(a1:OA)(c1 b2 o2 c2:Nat)(a3:OA)(c3:Nat)(y:Cpy)(a7:OA)(c7:Nat)(b:Brt)(am:OA)(cm:Nat)(w:World)(n1:SliceC BrtC 6 lo w a1 x.berths)(n2:SliceC SvcC 2 lo w (some ⟨b2,o2,none⟩) x.services)(n3:SliceC CpyC 12 lo w a3 x.copies)(nm:SliceC StrC 1 lo w am b.marks)(hci:x.copies[ci]?=some y)(hbi:x.berths[bi]?=some b)(hat:y.at_=⟨#[]⟩)(hv:Au x=true)(hsel:y.select.size<=maxLen)(hmk:∀z∈x.berths,z.marks.length<=1048576)(hlk:∀z∈x.copies,z.likes.length<=1048576) :
  Calls prog 19 #[.agg (ffA x a1 c1 (some ⟨b2,o2,none⟩) c2 a3 c3),.agg (ccA y a7 c7),.agg (bbA b am cm)] w λe w'=>BN x ci y b w e w':=by
 obtain⟨i0,hi,hz0,hz1,hz2⟩:=info_parts Hd;have HI0:=iH hi;have HSZ:Hid (SzC x.copies):=Qs n3;have hfew:(Bc x y b).length<=10:=Tc hv (by have:=(Aw hv).2.1;omega) hbi;have hl3:x.copies.length<=60:=(Aw hv).2.1;have N1:=iH n1;have N2:=iH n2;have N3:=iH n3;have NM:=iH nm;have HV:=iH hv;have HCI:=iH hci;have HBI:=iH hbi;have HAT:=iH hat;clear n1 n2 n3 nm hv hci hbi hat hi;go_enter func19,ntmps19;go_upto_region 1 with fail;have HL0:=iH (L3In.of x a1 c1 (some ⟨b2,o2,none⟩) c2 a3 c3 y a7 c7 b am cm w).1;have HB0:=iH (L3In.of x a1 c1 (some ⟨b2,o2,none⟩) c2 a3 c3 y a7 c7 b am cm w).2;generalize(((w.alloc (Obj.cells (ffA x a1 c1 (some ⟨b2,o2,none⟩) c2 a3 c3) 35)).alloc (Obj.cells (ccA y a7 c7) 49)).alloc (Obj.cells (bbA b am cm) 52))=w0 at *;have hb2:Below w0.heap.size w0 (w0.alloc (Obj.cells #[] 9)):=by go_grown
 have HO2:Hid ((w0.alloc (Obj.cells #[] 9)).ownsRow w0.heap.size 9 1 (.slice (some ⟨w0.heap.size,0,none⟩) 0 0) 0 (He (Ct x (Ih x y b 0)))):=World.ownsRow_made w0 #[] 0 nL (zL) rfl;have HL1:=iH (HL0.out.below hb2);have HB1:=qTH HB0 hb2;have hs0:w.heap.size<=w0.heap.size:=HB0.out.size;obtain⟨H0,hH0⟩:∃H0,H0=w0.heap.size:=⟨_,rfl⟩;go_upto_region 3 with fail;generalize w0.alloc (Obj.cells #[] 9)=w1 at *;rw[<-hH0]at HO2 hs0⊢;have hs1:H0<=w1.heap.size:=hH0▸hb2.size;have hbx:w.heap.size+1+1<H0:=hH0▸HL0.out.2.2.lt;clear hb2 hH0 HL0 HB0;go_loopw [8,9] (λv i wr=>∃(k:Nat),k<=x.copies.length/\i=.int .i64 k/\H0<=wr.heap.size/\Hid (wr.ownsRow H0 9 1 v (Ih x y b k).length (He (Ct x (Ih x y b k))))/\Hid (L3In w.heap.size x a1 c1 (some ⟨b2,o2,none⟩) c2 a3 c3 y a7 c7 b am cm wr)/\Hid (Below w.heap.size w wr)) (λ_ i _=>x.copies.length-(intOf i).toNat)
 case atStart=>exact⟨0,zL,rfl,hs1,HO2,HL1,HB1⟩
 case round =>
  clear HO2 HL1 HB1;obtain⟨k,hk,rfl,hsr,HO,HL,HB⟩:=hrel;have kf3:wr.cell? ⟨w.heap.size,3,none⟩=some (.slice a3 x.copies.length c3):=HL.out.1.cell rfl;by_cases hlt:k<x.copies.length
  case neg =>
   have hke:k=x.copies.length:=by omega
   subst hke;clear hk;obtain⟨dm,qm,rfl⟩:=Qq HO;have HM:Hid (SliceC StrC 1 H0 wr dm (Ct x (Bc x y b))):=Px (cap:=qm) (by rw[Da];exact HO.out) (by rw[Da];omega) (Qn HSZ _);obtain⟨n,hn⟩:∃n,n=(Ih x y b x.copies.length).length:=⟨_,rfl⟩;have hnv:(Bc x y b).length=n:=hn.symm;have hn10:n<=10:=hnv▸hfew;obtain⟨P,hP⟩:∃P:Nat,P=2^n:=⟨_,rfl⟩;have hP1:P<=1024:=by rw[hP];exact Nat.pow_le_pow_right (n:=2) (by decide) hn10
   have hW1:IntKind.i64.wrap (2^n)=((P:Nat):Int):=by
    rw[show(2:Int)^n=((P:Nat):Int) by rw[hP];push_cast;rfl];exact uZ _ (by omega)
   have hW2:wrap64 (2^n)=((P:Nat):Int):=(Go.IntWalk.i64_left _).symm.trans hW1;have HN:=iH hnv;have HP:=iH hP;have hb7:Below wr.heap.size wr (wr.alloc (Obj.cells #[] 9)):=by go_grown
   have HM7:=qSl StrC.holds HM hb7;have HL7:=iH (HL.out.below hb7);have HB7:=qTH HB hb7;have hs7:H0<=(wr.alloc (Obj.cells #[] 9)).heap.size:=lT hsr hb7.size;rw[<-hn];have HW1:=iH hW1;have HW2:=iH hW2;clear hn hP hnv HO HM HL HB hW1 hW2;go_upto_region 10 with fail;clear kf3;generalize hG0:wr.heap.size=G0 at *;generalize wr.alloc (Obj.cells #[] 9)=w7 at *;go_loopw [10,11,12] (λvb vf vs wz=>∃(s:Nat)(g:List Nat)(found:Bool)(dg:OA)(qg:Nat),s<=P/\vs=.int .i64 s/\vf=.bool found/\vb=.slice dg g.length qg/\Hid (g.Sublist (Bc x y b))/\Hid (BestTo (rkV x) (Bc x y b) (okV x ci y b) s g found)/\H0<=wz.heap.size/\Hid (SliceC StrC 1 H0 wz dg (Ct x g))/\Hid (SliceC StrC 1 H0 wz dm (Ct x (Bc x y b)))/\Hid (L3In w.heap.size x a1 c1 (some ⟨b2,o2,none⟩) c2 a3 c3 y a7 c7 b am cm wz)/\Hid (Below w.heap.size w wz)) (λ_ _ vs _=>P-(intOf vs).toNat)
   case atStart=>exact⟨0,[],false,_,_,zL,rfl,rfl,rfl,List.nil_sublist _,BestTo.start _ _ _,hs7,SliceC.nil,HM7,HL7,HB7⟩
   case round =>
    clear HM7 HL7 HB7 hs7;obtain⟨s,g,found,dg,qg,hs,rfl,rfl,rfl,HGS,HBT,hsz,HG,HM,HL,HB⟩:=hrel;by_cases hlt:s<P
    case neg =>
     have hse:s=P:=Nat.le_antisymm hs (Nat.le_of_not_lt hlt);subst hse;have hW1:=HW1.out;have hW2:=HW2.out;have HBF:Hid (BestTo (rkV x) (Bc x y b) (okV x ci y b) (2^(Bc x y b).length) g found):=by
      show BestTo _ _ _ _ _ _
      rw[HN.out,<-HP.out];exact HBT.out
     go_wp2
     go_ret2
     exact⟨g,found,dg,qg,by rw[Da];rfl,HBF,HG.out.keep StrC.holds (Keeps.refl _ _) hs0,HB⟩
    case pos =>
     have hW1:=HW1.out;have hW2:=HW2.out;have hb12:Below wr.heap.size wr (wr.alloc (Obj.cells #[] 9)):=by go_grown
     have HO12:Hid ((wr.alloc (Obj.cells #[] 9)).ownsRow wr.heap.size 9 1 (.slice (some ⟨wr.heap.size,0,none⟩) 0 0) 0 (He (Ct x (Ef (Bc x y b) s 0)))):=World.ownsRow_made wr #[] 0 nL (zL) rfl;go_upto_region 14 with fail;clear hW1 hW2;generalize hw3:wr=w3 at *;have hsz3:w3.heap.size<=(w3.alloc (Obj.cells #[] 9)).heap.size:=hb12.size;generalize w3.alloc (Obj.cells #[] 9)=w12 at *;clear hw3;go_loopw [13,14] (λv i wz=>∃(k:Nat),k<=n/\i=.int .i64 k/\Hid (wz.ownsRow w3.heap.size 9 1 v (Ef (Bc x y b) s k).length (He (Ct x (Ef (Bc x y b) s k))))/\Hid (Below w3.heap.size w3 wz)) (λ_ i _=>n-(intOf i).toNat)
     case atStart=>exact⟨0,zL,rfl,HO12,hb12⟩
     case round =>
      clear HO12 hb12 hsz3;obtain⟨k,hk,rfl,HO,HB3⟩:=hrel;have hsr3:w3.heap.size<=wr.heap.size:=HB3.out.size;by_cases hkl:k<n
      case neg =>
       have hke:k=n:=Nat.le_antisymm hk (Nat.le_of_not_lt hkl);obtain⟨dv,qv,rfl⟩:=Qq HO;have hO:=HO.out;have hpe:Ef (Bc x y b) s k=Hq (Bc x y b) s:=by
        rw[hke,<-HN.out];rfl
       obtain⟨gg,hgg⟩:∃gg,Hq (Bc x y b) s=gg:=⟨_,rfl⟩;rw[hpe,hgg]at hO⊢;have HGE:=iH hgg;have HSB:Hid (gg.Sublist (Bc x y b)):=by
        show List.Sublist _ _
        rw[<-hgg];exact fW _ _
       have hgl:gg.length<=10:=lT HSB.out.length_le hfew;have hgl2:g.length<=10:=lT HGS.out.length_le hfew;have HIN:=iH (InV.of HV HBI HSB);have HIG:=iH (InV.of HV HBI HGS);have HGO:Hid (SliceC StrC 1 H0 wr dv (Ct x gg)):=(Px (cap:=qv) (by rw[Da];exact hO) (by rw[Da];omega) (Qn HSZ _)).keep StrC.holds (Keeps.refl _ _) hsz;replace HL:=iH (HL.out.below HB3);replace HB:=iH (HB.out.trans (HB3.out.mono HB.out.size));replace HG:=iH (HG.out.below StrC.holds HB3 nL);replace HM:=iH (HM.out.below StrC.holds HB3 nL);have hsv:H0<=wr.heap.size:=lT hsz hsr3;clear hO hpe hgg hkl hk HB3 HO;subst hke;cases found
       case' false =>
        have HLT:Hid (false=true->hLt (rkV x) g gg=false):=by
         intro h;cases h
        generalize wr=wt at *
       case' true =>
        have HRX:=iH HL.out.1.rangeA;go_wp2_with(first|(refine qLr Oa HRX ?_));clear HRX;refine(Xi HV HIN a1 c1 (some ⟨b2,o2,none⟩) c2 a3 c3 lo dv qv H0 wr (N3.out.below CpyC.holds HB nL) HGO hgl).mono ?_;rintro e wa⟨d1,q1,rfl,ha1,hb⟩;replace HL:=iH (HL.out.below hb);replace HB:=qTH HB hb;replace HG:=qSl StrC.holds HG hb;replace HM:=qSl StrC.holds HM hb;replace HGO:=qSl StrC.holds HGO hb;replace hsv:H0<=wa.heap.size:=lT hsv hb.size;have HA1:=iH ha1;clear hb ha1;have HRX:=iH HL.out.1.rangeA;go_wp2_with(first|(refine qLr Oa HRX ?_));clear HRX;refine(Xi HV HIG a1 c1 (some ⟨b2,o2,none⟩) c2 a3 c3 lo dg qg H0 wa (N3.out.below CpyC.holds HB nL) HG hgl2).mono ?_;rintro e wb⟨d2,q2,rfl,ha2,hb⟩;replace HL:=iH (HL.out.below hb);replace HB:=qTH HB hb;replace HG:=qSl StrC.holds HG hb;replace HM:=qSl StrC.holds HM hb;replace HGO:=qSl StrC.holds HGO hb;replace hsv:H0<=wb.heap.size:=lT hsv hb.size;replace HA1:=qSl IntC.holds HA1 hb;have HA2:=iH ha2;clear hb ha2;obtain⟨s1,hs1⟩:∃s1,Cf ltI (Bo (rkV x) g) (Bo (rkV x) gg)=s1:=⟨_,rfl⟩;obtain⟨s2,hs2⟩:∃s2,Cf ltI (Bo (rkV x) gg) (Bo (rkV x) g)=s2:=⟨_,rfl⟩;obtain⟨s3,hs3⟩:∃s3,Cf ltP gg g=s3:=⟨_,rfl⟩;have S1:=iH hs1;have S2:=iH hs2;have S3:=iH hs3;clear hs1 hs2 hs3;go_upto_region 21 with fail
        go_cut [102] (λv wz=>v=.bool (s1||(!s2&&!s3))/\H0<=wz.heap.size/\Hid (L3In w.heap.size x a1 c1 (some ⟨b2,o2,none⟩) c2 a3 c3 y a7 c7 b am cm wz)/\Hid (Below w.heap.size w wz)/\Hid (SliceC StrC 1 H0 wz dg (Ct x g))/\Hid (SliceC StrC 1 H0 wz dm (Ct x (Bc x y b)))/\Hid (SliceC StrC 1 H0 wz dv (Ct x gg)))
        case first =>
         go_wp2_with fail;have h1:=Zk (Bo (rkV x) g) (Bo (rkV x) gg) d2 d1 q2 q1 _ _ wb HA2 HA1;rw[S1.out]at h1;refine h1.mono ?_;clear h1;rintro e wc⟨rfl,hb⟩;replace HL:=iH (HL.out.below hb);replace HB:=qTH HB hb;replace HG:=qSl StrC.holds HG hb;replace HM:=qSl StrC.holds HM hb;replace HGO:=qSl StrC.holds HGO hb;replace hsv:H0<=wc.heap.size:=lT hsv hb.size;replace HA1:=qSl IntC.holds HA1 hb;replace HA2:=qSl IntC.holds HA2 hb;clear hb
         cases s1 with
         |true =>
          go_wp2
          go_meet;exact⟨rfl,hsv,HL,HB,HG,HM,HGO⟩
         | false =>
          go_wp2_with fail;have h1:=Zk (Bo (rkV x) gg) (Bo (rkV x) g) d1 d2 q1 q2 _ _ wc HA1 HA2;rw[S2.out]at h1;refine h1.mono ?_;clear h1;rintro e wd⟨rfl,hb⟩;replace HL:=iH (HL.out.below hb);replace HB:=qTH HB hb;replace HG:=qSl StrC.holds HG hb;replace HM:=qSl StrC.holds HM hb;replace HGO:=qSl StrC.holds HGO hb;replace hsv:H0<=wd.heap.size:=lT hsv hb.size;clear hb
          cases s2 with
          |true =>
           go_wp2
           go_meet;exact⟨rfl,hsv,HL,HB,HG,HM,HGO⟩
          | false =>
           go_wp2_with fail;have h1:=oY HV HIN HIG dv dg qv qg _ _ wd HGO HG;rw[S3.out]at h1;refine h1.mono ?_;clear h1;rintro e we⟨rfl,hb⟩;replace HL:=iH (HL.out.below hb);replace HB:=qTH HB hb;replace HG:=qSl StrC.holds HG hb;replace HM:=qSl StrC.holds HM hb;replace HGO:=qSl StrC.holds HGO hb;replace hsv:H0<=we.heap.size:=lT hsv hb.size;clear hb
           cases s3 with
           |true =>
            go_wp2
            go_meet;exact⟨rfl,hsv,HL,HB,HG,HM,HGO⟩
           |false =>
            go_wp2
            go_meet;exact⟨rfl,hsv,HL,HB,HG,HM,HGO⟩
        case' rest =>
         clear hsv HL HB HG HM HGO HA1 HA2;obtain⟨rfl,hsv,HL,HB,HG,HM,HGO⟩:=hcut;generalize wc=wt at *;cases hsk:(s1||(!s2&&!s3))
         case' true =>
          have HBN:Hid (BestTo (rkV x) (Bc x y b) (okV x ci y b) (s+1) g true):=HBT.out.skip (Or.inl ⟨rfl,by
           rw[HGE.out]
           exact uD (by rw[S1.out,S2.out,S3.out];exact hsk)⟩)
          go_wp2
          go_roundw
          case rel=>exact⟨s+1,g,true,dg,qg,Nat.succ_le_of_lt hlt,by go_num,rfl,rfl,HGS,HBN,hsv,HG,HM,HL,HB⟩
          case measure=>simp[intOf];omega
         have HLT:Hid (true=true->hLt (rkV x) g gg=false):=λ_=>xD (by rw[S1.out,S2.out,S3.out];exact hsk)
         clear hsk
       all_goals
        go_upto_region 22 with fail;refine wp_region_held_drew (S:=λwy=>L3In w.heap.size x a1 c1 (some ⟨b2,o2,none⟩) c2 a3 c3 y a7 c7 b am cm wy) (by kernel_rfl) HL.out.drew (λhS=>?_);have hb:Below wt.heap.size wt wt.drew:=(Below.refl _ _).drew;replace HL:=iH (HL.out.below hb);replace HB:=qTH HB hb;replace HG:=qSl StrC.holds HG hb;replace HM:=qSl StrC.holds HM hb;replace HGO:=qSl StrC.holds HGO hb;replace hsv:H0<=wt.drew.heap.size:=lT hsv hb.size;clear hb;generalize wt.drew=wn at *;refine tm 0 103 w.heap.size 0 (ffL x a1 c1 (some ⟨b2,o2,none⟩) c2 a3 c3) rfl (λ_ h=>h.1.rangeA) underlying35 Ea hS ?_;refine tz 1 104 (.slice dv gg.length qv) ?_;refine rd1 2 ⟨some 105,_,_,_,_,none⟩ rfl (λK hK=>?_);go_simp;refine(oP HV HIN a1 c1 (some ⟨b2,o2,none⟩) c2 a3 c3 lo dv qv H0 wn (N2.out.below SvcC.holds HB nL) (N3.out.below CpyC.holds HB nL) HGO hgl).mono ?_;rintro e wo⟨t,rfl,ht,hb⟩;replace HL:=iH (HL.out.below hb);replace HB:=qTH HB hb;replace HG:=qSl StrC.holds HG hb;replace HM:=qSl StrC.holds HM hb;replace HGO:=qSl StrC.holds HGO hb;replace hsv:H0<=wo.heap.size:=lT hsv hb.size;refine hK.out _ _ HL (λhS=>?_);clear hK K;clear hb
        cases t with
        |false =>
         have hno:¬okV x ci y b gg:=λh=>absurd (ht.2 h.1) (by decide)
         have HBN:Hid (BestTo (rkV x) (Bc x y b) (okV x ci y b) (s+1) g _):=HBT.out.skip (Or.inr (by rw[HGE.out];exact hno));clear ht hno;refine tz 3 106 (.bool false) ?_;refine ts 4 107 ?_;refine ts 5 108 ?_;refine ts 6 109 ?_;refine ts 7 110 ?_;refine ts 8 111 ?_;refine ts 9 112 ?_;refine ts 10 113 ?_;refine tz 11 114 (.bool false) ?_;refine td ?_;clear hS
         go_wp2
         go_roundw
         case rel=>exact⟨s+1,g,_,dg,qg,Nat.succ_le_of_lt hlt,by go_num,rfl,rfl,HGS,HBN,hsv,HG,HM,HL,HB⟩
         case measure=>simp[intOf];omega
        | true =>
         have HLV:Hid (Ft x gg):=ht.1 rfl;clear ht;refine tz 3 106 (.bool true) ?_;refine tm 4 107 w.heap.size 0 (ffL x a1 c1 (some ⟨b2,o2,none⟩) c2 a3 c3) rfl (λ_ h=>h.1.rangeA) underlying35 Ea hS ?_;refine tz 5 108 (.slice dv gg.length qv) ?_;refine tk 7 ⟨some 110,_,_,_,_,some (3,true)⟩ (.agg (ccA y a7 c7)) rfl (yieldsIf_load_mid (by rfl) _ _ rfl (w.heap.size+1) (0) rfl (ccL y a7 c7) _ (λ_ h=>h.2.1.rangeA) underlying49 rfl Dk) hS ?_;refine tk 8 ⟨some 111,_,_,_,_,some (3,true)⟩ (.agg (bbA b am cm)) rfl (yieldsIf_load_mid (by rfl) _ _ rfl (w.heap.size+1+1) (0) rfl (bbL b am cm) _ (λ_ h=>h.2.2.rangeA) underlying52 rfl Dl) hS ?_;refine rd1 6 ⟨some 109,_,_,_,_,some (3,true)⟩ rfl (λK hK=>?_);go_simp;refine(vS HV HIN a1 c1 b2 o2 c2 a3 c3 dv qv lo H0 wo (N1.out.below BrtC.holds HB nL) (N2.out.below SvcC.holds HB nL) (N3.out.below CpyC.holds HB nL) HGO hgl hmk hlk (Pm HCI)).mono ?_;rintro e wp⟨e1,q1,e2,q2,e3,q3,rfl,m1,m3,hb⟩;replace HL:=iH (HL.out.below hb);replace HB:=qTH HB hb;replace HG:=qSl StrC.holds HG hb;replace HM:=qSl StrC.holds HM hb;replace HGO:=qSl StrC.holds HGO hb;replace hsv:H0<=wp.heap.size:=lT hsv hb.size;have M1:=iH m1;have M3:=iH m3;refine hK.out _ _ HL (λhS=>?_);clear hK K;clear hb m1 m3;obtain⟨fr,hfr⟩:∃fr,Ed (woF x gg) ci y b false=fr:=⟨_,rfl⟩;have HFR:=iH hfr;have hcl:=tO HV gg ci bi e1 q1 e2 q2 e3 q3 y a7 c7 b am cm lo wp M1 M3 (NM.out.below StrC.holds HB nL) HCI HBI HAT hsel;rw[hfr]at hcl;have HCL:=iH hcl;clear hfr hcl;refine rd1 9 ⟨some 112,_,_,_,_,some (3,true)⟩ rfl (λK hK=>?_);go_simp;refine(HCL).mono ?_;rintro e wq⟨rfl,hb⟩;replace HL:=iH (HL.out.below hb);replace HB:=qTH HB hb;replace HG:=qSl StrC.holds HG hb;replace HM:=qSl StrC.holds HM hb;replace HGO:=qSl StrC.holds HGO hb;replace hsv:H0<=wq.heap.size:=lT hsv hb.size;refine hK.out _ _ HL (λhS=>?_);clear hK K;clear hb HCL M1 M3;by_cases hf:fr=0
         .have HOK:Hid (okV x ci y b gg):=⟨HLV,decide_eq_true (HFR.out.trans hf)⟩
          have HBN:Hid (BestTo (rkV x) (Bc x y b) (okV x ci y b) (s+1) gg true):=by
           have h9:=HBT.out.take (by rw[HGE.out];exact HOK.out) (by rw[HGE.out];exact HLT.out);rw[HGE.out]at h9;exact h9
          subst hf;refine tz 10 113 (.bool true) ?_;refine tz 11 114 (.bool true) ?_;refine td ?_;clear hS
          go_wp2
          go_roundw
          case rel=>exact⟨s+1,gg,true,dv,qv,Nat.succ_le_of_lt hlt,by go_num,rfl,rfl,HSB,HBN,hsv,HGO,HM,HL,HB⟩
          case measure=>simp[intOf];omega
         .have hno:¬okV x ci y b gg:=λh=>hf (HFR.out.symm.trans (of_decide_eq_true h.2))
          have HBN:Hid (BestTo (rkV x) (Bc x y b) (okV x ci y b) (s+1) g _):=HBT.out.skip (Or.inr (by rw[HGE.out];exact hno));have hf2:(fr==0)=false:=by simpa using hf
          clear hno;refine tz 10 113 (.bool false) ?_;refine tz 11 114 (.bool false) ?_;refine td ?_;clear hS
          go_wp2
          go_roundw
          case rel=>exact⟨s+1,g,_,dg,qg,Nat.succ_le_of_lt hlt,by go_num,rfl,rfl,HGS,HBN,hsv,HG,HM,HL,HB⟩
          case measure=>simp[intOf];omega
      case pos =>
       have hkm:k<(Bc x y b).length:=by rw[HN.out];exact hkl
       obtain⟨t,ht⟩:∃t,(Bc x y b)[k]?=some t:=⟨_,gE hkm⟩;have hpl:(Ef (Bc x y b) s k).length<=k:=iP _ _ _;obtain⟨c,hc,_⟩:=Gf (List.mem_of_getElem? ht);have hgm:(Ct x (Bc x y b))[k]?=some c.name:=by
        unfold Ct;rw[List.getElem?_map,ht,Option.map_some,Gz hc]
       obtain⟨bm,om,rfl,_,hbm,hcm⟩:=(HM.out.below StrC.holds HB3 nL).at hgm;obtain⟨r0,_⟩:=hcm;simp only[Nat.mul_one,Nat.add_zero]at r0;obtain⟨X,hX⟩:∃X:Nat,X=s/2^k:=⟨_,rfl⟩;have hSh:((s:Nat):Int)/2^k=((X:Nat):Int):=by rw[hX];push_cast;rfl
       have hk64:((k:Nat):Int)<=64:=by omega
       clear hgm;have hsl:kY (Ct x (Bc x y b)) maxLen:=Qn HSZ _;by_cases htb:s.testBit k=true
       .have hx1:X%2=1:=by
         rw[Nat.testBit_eq_decide_div_mod_eq,decide_eq_true_eq]at htb;rw[hX];exact htb
        have hx2:((X:Nat):Int)%2=1:=by omega
        have hx3:(Int.tmod (((s:Nat):Int)/2^k) 2==1)=true:=by rw[hSh,Int.tmod_eq_emod_of_nonneg (Int.natCast_nonneg _),hx2];rfl
        have HST:Hid (Ef (Bc x y b) s (k+1)=Ef (Bc x y b) s k++[t]):=gQ ht htb;have HSN:Hid (Ct x (Ef (Bc x y b) s (k+1))=Ct x (Ef (Bc x y b) s k)++[c.name]):=by
         show _=_
         rw[HST.out];unfold Ct;rw[List.map_append,List.map_cons,List.map_nil,Gz hc]
        clear htb hX ht hc hx1 hx2 hSh hsl;go_wp2_with(first|(at_builtin;refine wpList_append_lies _ rfl (.tmp 74) (.tmp 79) 28 rfl w3.heap.size 9 i0 _ 1 16 underlying28 HI0 hz0 hz1 hz2 rfl (by decide) _ (Ef (Bc x y b) s k).length _ rfl (Ak HO ((Below.refl _ _).alloc nL _)) ⟨wr.heap.size,0,none⟩ 1 1 [.string c.name] rfl rfl (Wx (by simp)) (by intro u hu;rw[List.mem_singleton.1 hu];rfl) (by omega) (by unfold maxLen;omega) (by omega) (by simp;omega) _ rfl ?_;intro g2 cap2 w2 hown hgrow hto hgl));go_roundw
        case rel =>
         have hbA:=HB3.out.alloc HB3.out.size (Obj.cells #[Value.string c.name] 9);refine⟨k+1,by omega,by go_num,?_,?_⟩
         .show World.ownsRow _ _ _ _ _ _ _
          rw[HSN.out,HST.out,Tw,List.length_append];exact hown
         .exact hbA.grown hgrow hbA.size (λr e=>(HO.out.lt r e).1)
        case measure=>simp[intOf];omega
       .have hx1:X%2=0:=by
         rw[Nat.testBit_eq_decide_div_mod_eq,decide_eq_true_eq]at htb;rw[hX];omega
        have hx2:((X:Nat):Int)%2=0:=by omega
        have hx3:(Int.tmod (((s:Nat):Int)/2^k) 2==1)=false:=by rw[hSh,Int.tmod_eq_emod_of_nonneg (Int.natCast_nonneg _),hx2];rfl
        have HST:Hid (Ef (Bc x y b) s (k+1)=Ef (Bc x y b) s k):=nT (Bool.not_eq_true _▸htb);clear htb hX ht hc hx1 hx2 hSh hsl
        go_wp2
        go_roundw
        case rel =>
         refine⟨k+1,by omega,by go_num,?_,HB3⟩;show World.ownsRow _ _ _ _ _ _ _
         rw[HST.out];exact HO.out
        case measure=>simp[intOf];omega
  case pos =>
   obtain⟨c,hc⟩:=gXe hlt;have hml:(Ih x y b k).length<=k:=nS x y b k;have hc2:=iH hc;obtain⟨b3,o3,rfl,hlo3,hb3,hcc⟩:=(N3.out.below CpyC.holds HB nL).at hc;obtain⟨a9,c9,q0,q1,q2,q3,q4,q5,q6,q7,q8,q9,q10,q11,_⟩:=hcc;simp only[Nat.add_zero]at q0;clear q1 q3 q4 q5 q6 q7 q8 q9 q10 hc;have kb0:wr.cell? ⟨w.heap.size+1+1,0,none⟩=some (.string b.name):=HL.out.2.2.cell rfl;have ky2:wr.cell? ⟨w.heap.size+1,2,none⟩=some (.int .i64 y.rank):=HL.out.2.1.cell rfl;have hix:decide ((k:Int)<0)=false:=by simp
   have hix2:decide ((k:Int)<(x.copies.length:Int))=true:=decide_eq_true (by omega);by_cases h1:c.at_=b.name
   .have e9:=xP h1
    by_cases h2:c.rank<y.rank
    .have HST:=iH (nG (y:=y) (b:=b) hc2.out h1 h2)
     have HSN:Hid ((Ih x y b (k+1)).length=(Ih x y b k).length+1):=by
      have h9:=congrArg List.length HST;rw[Da,List.length_append,Da]at h9;exact h9
     clear h1;go_upto_region 5 with fail
     go_quiet (fail)
     have hdr:Below wr.heap.size wr (wr.drewN nq):=⟨rfl,rfl,rfl,Nat.le_refl _,λ_ _=>rfl⟩;replace HO:=iH (Ak HO hdr);replace HL:=iH (HL.out.below hdr);replace HB:=qTH HB hdr;replace hsr:H0<=(wr.drewN nq).heap.size:=hsr;replace q0:(wr.drewN nq).cell? ⟨b3,o3+k*12,none⟩=some (.string c.name):=q0;clear hdr kf3;generalize wr.drewN nq=wd at *;have kf3:wd.cell? ⟨w.heap.size,3,none⟩=some (.slice (some ⟨b3,o3,none⟩) x.copies.length c3):=HL.out.1.cell rfl;clear q2 q11 kb0 ky2 e9 h2 hix hix2;go_wp2_with(first|(at_builtin;refine wpList_append_lies _ rfl (.tmp 45) (.tmp 52) 28 rfl H0 9 i0 _ 1 16 underlying28 HI0 hz0 hz1 hz2 rfl (by decide) _ (Ih x y b k).length _ rfl (Ak HO ((Below.refl _ _).alloc nL _)) ⟨wd.heap.size,0,none⟩ 1 1 [.string c.name] rfl rfl (Wx (by simp)) (by intro u hu;rw[List.mem_singleton.1 hu];rfl) (by omega) (by unfold maxLen;omega) (by omega) (by simp;omega) _ rfl ?_;intro g2 cap2 w2 hown hgrow hto hgl));go_roundw
     case rel =>
      have hbA:=(Below.refl _ wd).alloc nL (Obj.cells #[Value.string c.name] 9);have hLA:=HL.out.below hbA;have hsg:=hgrow.size;have hsA:=hbA.size;refine⟨k+1,by omega,by go_num,by omega,?_,?_,?_⟩
      .show World.ownsRow _ _ _ _ _ _ _
       rw[HST.out,HSN.out,Tw];exact hown
      .exact hLA.grown hgrow (λr e=>lL hbx (HO.out.lt r e).1)
      .have hB1:=HB.out.alloc HB.out.size (Obj.cells #[Value.string c.name] 9)
       exact hB1.grown hgrow hB1.size (λr e=>lT hs0 (HO.out.lt r e).1)
     case measure=>simp[intOf];omega
    .have HST:=iH (dB (y:=y) (b:=b) hc2.out (λh=>h2 h.2))
     clear h1;go_upto_region 5 with fail
     go_quiet (fail)
     have hdr:Below wr.heap.size wr (wr.drewN nq):=⟨rfl,rfl,rfl,Nat.le_refl _,λ_ _=>rfl⟩;replace HO:=iH (Ak HO hdr);replace HL:=iH (HL.out.below hdr);replace HB:=qTH HB hdr;replace hsr:H0<=(wr.drewN nq).heap.size:=hsr;replace q0:(wr.drewN nq).cell? ⟨b3,o3+k*12,none⟩=some (.string c.name):=q0;clear hdr kf3;generalize wr.drewN nq=wd at *;have kf3:wd.cell? ⟨w.heap.size,3,none⟩=some (.slice (some ⟨b3,o3,none⟩) x.copies.length c3):=HL.out.1.cell rfl;clear q2 q11 q0 kb0 ky2 e9 h2 hix hix2
     go_wp2
     go_roundw
     case rel =>
      refine⟨k+1,by omega,by go_num,hsr,?_,HL,HB⟩;show World.ownsRow _ _ _ _ _ _ _
      rw[HST.out];exact HO.out
     case measure=>simp[intOf];omega
   .have e9:=xN h1
    have HST:=iH (dB (y:=y) (b:=b) hc2.out (λh=>h1 h.1));clear h1;go_upto_region 5 with fail
    go_quiet (fail)
    have hdr:Below wr.heap.size wr (wr.drewN nq):=⟨rfl,rfl,rfl,Nat.le_refl _,λ_ _=>rfl⟩;replace HO:=iH (Ak HO hdr);replace HL:=iH (HL.out.below hdr);replace HB:=qTH HB hdr;replace hsr:H0<=(wr.drewN nq).heap.size:=hsr;replace q0:(wr.drewN nq).cell? ⟨b3,o3+k*12,none⟩=some (.string c.name):=q0;clear hdr kf3;generalize wr.drewN nq=wd at *;have kf3:wd.cell? ⟨w.heap.size,3,none⟩=some (.slice (some ⟨b3,o3,none⟩) x.copies.length c3):=HL.out.1.cell rfl;clear q2 q11 q0 kb0 ky2 e9 hix hix2
    go_wp2
    go_roundw
    case rel =>
     refine⟨k+1,by omega,by go_num,hsr,?_,HL,HB⟩;show World.ownsRow _ _ _ _ _ _ _
     rw[HST.out];exact HO.out
    case measure=>simp[intOf];omega
end Go.Proofs.YtpidfnfilnkhkaaGreat
