import Derived.Test.YthboopnmbglkjaaGreatJ31
set_option maxHeartbeats 4000000
namespace Go.Proofs.YthboopnmbglkjaaGreat
open Tryz
set_option maxRecDepth 100000
open Go.RowKit Tryz
def SmB(l:List Brt):Prop:=∀x∈l,x.marks.length<=1048576/\Zx x.marks 1048576/\x.name.size<=1048576/\x.zone.size<=1048576
def SmC(l:List Cpy):Prop:=∀x∈l,x.likes.length<=1048576/\Yy x.likes 1048576/\x.name.size<=1048576/\x.service.size<=1048576/\x.select.size<=1048576/\x.near.size<=1048576/\x.fixed.size<=1048576/\x.at_.size<=1048576
theorem pR(xs:List Brt)(ad:Addr)(cap lo:Nat)(w:World)(hin:sB lo w (some ad) xs)(hsm:xs.length<=1048576) :
  Calls prog 100 #[.slice (some ad) xs.length cap] w λe w'=>∃g c cs,e=.returned (sP g 0 xs.length c)/\w'.ownsRow w.heap.size 92 6 (sP g 0 xs.length c) xs.length cs/\(∀j x,xs[j]?=some x->∃(ae:OA)(ce:Nat),(∀i u,(vBr x (.slice ae x.marks.length ce))[i]?=some u->cs[j*6+i]?=some u)/\sX lo w ae x.marks)/\bW w w':=by
 obtain⟨i0,hi,hz0,hz1,hz2⟩:=info_parts Vg;have q22:∀(w:World)(a:OA)(n c n' c':Nat),(binOp .eql 28 (.slice a n c) (.slice none n' c')).run prog w=.ok (.bool a.isNone) w:=λw a n c n' c'=>Lib.run_eql_slice_nil w _ _ a n c n' c' underlying28
 obtain⟨cs,hcl,hcs,hc1,hcb⟩:=sS hin;have HCL:=iH hcl;have HS:=iH hcs;have HC1:=iH hc1;have HCB:=iH hcb;clear hin hcl hcs hc1 hcb;go_enter func100,ntmps100;go_wp2_with(at_builtin;refine wpList_append_own _ rfl _ _ 28 rfl w.heap.size 92 i0 _ 6 80 underlying28 hi hz0 hz1 hz2 rfl (by decide) _ _ _ rfl (World.ownsRow_made w #[] 0 nL (zL) rfl) ad xs.length _ cs rfl HCL (λj u hj=>Lib.cell?_alloc_some _ (HS j u hj)) HC1 (by unfold maxLen;omega) (by omega) (by simp) ?_;intro v' w1 hown hgrow hnil);have hv:v'≠.slice none 0 0:=λe=>by have:=(hnil.1 e).1;cases this
 have hown':w1.ownsRow w.heap.size 92 6 v' xs.length cs:=by simpa using hown
 obtain⟨g,c,rfl⟩:=Yc hown' hv;have HO:=iH hown';have hB:bW w w1:=((Below.refl _ w).alloc nL _).grown hgrow (by simp) (by intro k hk;cases hk;exact Nat.le_refl _);clear hown hgrow hnil hv hown'
 go_wp2
 go_ret;exact⟨g,c,cs,rfl,HO,HCB,hB⟩
theorem kQ(cap:Nat)(w:World) :
  Calls prog 100 #[.slice none 0 cap] w (Rt (.slice none 0 0) w):=by
 have q22:∀(w:World)(a:OA)(n c n' c':Nat),(binOp .eql 28 (.slice a n c) (.slice none n' c')).run prog w=.ok (.bool a.isNone) w:=λw a n c n' c'=>Lib.run_eql_slice_nil w _ _ a n c n' c' underlying28
 go_enter func100,ntmps100
 go_wp2
 go_ret;exact⟨rfl,Below.refl _ _⟩
theorem iX(f:Value)(cap:Nat)(w:World) :
  Calls prog 61 #[.slice none 0 cap,f] w (Rt (.slice none 0 0) w):=by
 go_enter func61,ntmps61;go_wp2_with fail;refine(kQ cap _).mono ?_;rintro e w1⟨rfl,hb⟩;have HB:=iH hb;clear hb
 go_wp2
 go_loopw [11] (λi wr=>i=X 0/\bW w wr) (λi _=>0)
 case atStart=>exact⟨rfl,HB⟩
 obtain⟨rfl,hB⟩:=hrel
 go_wp2
 go_ret;exact⟨rfl,hB⟩
theorem pS(xs:List Brt)(ad:Addr)(cap lo:Nat)(w:World)(hin:sB lo w (some ad) xs)(hsm:xs.length<=1048576)(hz:SmB xs) :
  Calls prog 61 #[.slice (some ad) xs.length cap,.func (.func 62) #[] #[]] w λe w'=>∃g q,e=.returned (sP g 0 xs.length q)/\tY w.heap.size w' (sP g 0 xs.length q) xs/\bW w w':=by
 have HI:=iH hin;have HZ:=iH hz;clear hin hz;go_enter func61,ntmps61;go_wp2_with fail;refine(pR xs ad cap lo _ HI hsm).mono ?_;rintro e w1⟨g,q,cs,rfl,hO1,hcb,hB1⟩;have HO1:=iH hO1;have HP1:Hid (PAt vBr Brt.marks StrC 1 6 2 w.heap.size lo w1.heap.size g w w1 cs xs 0):=⟨λj x hj=>absurd hj (Nat.not_lt_zero _),λj x _ hj=>hcb j x hj,λi j _ _ _ _ _ _ _ _ _ h=>absurd h (Nat.not_lt_zero _)⟩;clear hO1 hcb
 go_wp2
 go_loopw [11] (λi wr=>∃(k:Nat)(cs:List Value),k<=xs.length/\i=X k/\Hid (wr.ownsRow w.heap.size 92 6 (sP g 0 xs.length q) xs.length cs)/\Hid (PAt vBr Brt.marks StrC 1 6 2 w.heap.size lo wr.heap.size g w wr cs xs k)/\bW w wr) (λi _=>xs.length-(intOf i).toNat)
 case atStart=>exact⟨0,cs,zL,rfl,HO1,HP1,hB1⟩
 clear HO1 HP1 hB1;obtain⟨k,cs,hk,rfl,HO,HP,hB⟩:=hrel;by_cases hlt:k<xs.length
 .obtain⟨x,hx⟩:=gXe hlt
  have HXX:=iH hx;have Z:=iH (HZ x (List.mem_of_getElem? hx));have hgl:g<wr.heap.size:=(HO.out.lt g rfl).2;have hgb:w.heap.size<=g:=gV HO;have hcl:cs.length=xs.length*6:=HO.out.1;obtain⟨am,cm,hqc,hsm0⟩:=HP.out.old k x nL hx;have HSM:=iH hsm0;have HRA:Hid (wr.rangeAt g (k*6) (bbL x am cm)):=λj v hv=>by
   have hj:j<6:=Af hv;have h1:=HO.out.cellAt (k*6+j) (by omega);rw[hqc j v hv]at h1;exact h1
  clear hx hqc hsm0;have hza:=Blk.alloc wr BbA 92;have HTS:Hid ((wr.alloc (Obj.cells BbA 92)).there wr.heap.size 0 6):=hza.there;obtain⟨w4,HW4⟩:∃w4,Hid (w4=(wr.alloc (Obj.cells BbA 92)).setCells wr.heap.size 0 (bbL x am cm)):=⟨_,rfl⟩;have HK4:Hid (Blk wr.heap.size (bbA x am cm) 92 w4):=by
   show Blk _ _ _ _
   rw[HW4.out];exact hza.setAll (bbA x am cm) rfl
  have hbx:bW wr w4:=by
   rw[HW4.out];exact Ae nL _ _ _ ((Below.refl _ wr).alloc nL _)
  have hB4:=qTr hB hbx;have HBX:=iH hbx;have hs4:wr.heap.size<=w4.heap.size:=hbx.size;clear hza hbx hB;go_upto_region 5 with(first|(refine qLr Ki HRA ?_)|(refine Ai rfl 92 _ _ rfl wr.heap.size 0 (bbA x am cm) rfl rfl HTS Cg (by simp[Value.oneCell']) w4 HW4 ?_));clear HRA HTS HW4;go_wp2_with(first|(refine qLk Ki HK4 ?_));refine(oN x am cm lo _ (HSM.out.below StrC.holds hB4 nL) Z.out.1 Z.out.2.1 Z.out.2.2.1 Z.out.2.2.2).mono ?_;rintro e w5⟨gm,qm,rfl,hOm,hb5⟩;have hsn:=fN hOm Z.out.1 (St HSM);have hB5:=qTr hB4 hb5;have hBr:=HBX.out.trans (hb5.mono hs4);have HO5:=iH (Ak HO hBr);have HP5:=iH (HP.out.below StrC.holds hBr nL);have HT5:Hid (w5.there g (k*6) 6):=Dg HO5 (by omega);obtain⟨w6,HW6⟩:∃w6,Hid (w6=w5.setCells g (k*6) (vBr x (.slice gm x.marks.length qm))):=⟨_,rfl⟩;have hs6:w6.heap.size=w5.heap.size:=by rw[HW6.out,Be]
  have HO6:Hid (w6.ownsRow w.heap.size 92 6 (sP g 0 xs.length q) xs.length (Cv cs (k*6) (vBr x (.slice gm x.marks.length qm)))):=by
   have h:=Dr (vBr x (.slice gm x.marks.length qm)) _ (k*6) _ HO5;rw[<-HW6.out]at h;exact h
  have HP6:Hid (PAt vBr Brt.marks StrC 1 6 2 w.heap.size lo w6.heap.size g w w6 (Cv cs (k*6) (vBr x (.slice gm x.marks.length qm))) xs (k+1)):=by
   have h:=PAt.step (N':=w6.heap.size) (ae:=gm) (ce:=qm) StrC.flat Pe sD HP5 HXX hcl (hsn.keep StrC.holds (Keeps.refl _ _) (by have:=hB4.size;omega)) (λb o e hn=>by
    rcases hsn.2 with h9|⟨b',o',e',⟨h8,_⟩,h7,_⟩
    .exact absurd h9 hn
    rw[e]at e';cases e'
    omega) (by have:=hBr.size;omega)
   rw[<-HW6.out]at h;exact h
  have hB6:bW w w6:=by
   rw[HW6.out];exact Ae hgb _ _ _ hB5
  unfold vBr at HW6;clear hB5 HO5 HP5 hB4 HBX hs4 hb5 hOm hsn hBr hs6 HK4 HO HP;have i0:(0:Int)<=(k:Int):=by omega
  have i1:(k:Int)<(xs.length:Int):=by omega
  go_wp2_with(first|(refine Ai rfl 92 _ _ rfl g (k*6) (bbA x gm qm) (by first|rfl|(simp[go_sem];done)) rfl HT5 Cg (by simp[Value.oneCell']) w6 HW6 ?_));go_roundw
  case rel=>exact⟨k+1,_,by omega,by go_num,HO6,HP6,hB6⟩
  simp[intOf];omega
 have hke:k=xs.length:=by omega
 subst hke
 go_wp2
 go_ret;exact⟨g,q,rfl,HP.out.done nL HO,hB⟩
theorem iC(xs:List Brt)(a:OA)(cap lo:Nat)(w:World)(hin:sB lo w a xs)(hsm:xs.length<=1048576)(hz:SmB xs) :
  Calls prog 61 #[.slice a xs.length cap,.func (.func 62) #[] #[]] w λe w'=>∃g q,e=.returned (.slice g xs.length q)/\tY w.heap.size w' (.slice g xs.length q) xs/\bW w w':=by
 cases a with
 |none =>
  have h0:xs=[]:=List.length_eq_zero_iff.1 (hin.nilD rfl);subst h0;refine(iX _ cap w).mono ?_;rintro e w1⟨rfl,hb⟩;exact⟨none,0,rfl,OwnA.nil,hb⟩
 |some ad =>
  refine(pS xs ad cap lo w hin hsm hz).mono ?_;rintro e w1⟨g,q,rfl,hO,hb⟩;exact⟨(O g 0),q,rfl,hO,hb⟩
theorem pG(xs:List Cpy)(ad:Addr)(cap lo:Nat)(w:World)(hin:sC lo w (some ad) xs)(hsm:xs.length<=1048576) :
  Calls prog 103 #[.slice (some ad) xs.length cap] w λe w'=>∃g c cs,e=.returned (sP g 0 xs.length c)/\w'.ownsRow w.heap.size 54 12 (sP g 0 xs.length c) xs.length cs/\(∀j x,xs[j]?=some x->∃(ae:OA)(ce:Nat),(∀i u,(vCp x (.slice ae x.likes.length ce))[i]?=some u->cs[j*12+i]?=some u)/\sK lo w ae x.likes)/\bW w w':=by
 obtain⟨i0,hi,hz0,hz1,hz2⟩:=info_parts Qt;have q22:∀(w:World)(a:OA)(n c n' c':Nat),(binOp .eql 30 (.slice a n c) (.slice none n' c')).run prog w=.ok (.bool a.isNone) w:=λw a n c n' c'=>Lib.run_eql_slice_nil w _ _ a n c n' c' underlying30
 obtain⟨cs,hcl,hcs,hc1,hcb⟩:=tV hin;have HCL:=iH hcl;have HS:=iH hcs;have HC1:=iH hc1;have HCB:=iH hcb;clear hin hcl hcs hc1 hcb;go_enter func103,ntmps103;go_wp2_with(at_builtin;refine wpList_append_own _ rfl _ _ 30 rfl w.heap.size 54 i0 _ 12 160 underlying30 hi hz0 hz1 hz2 rfl (by decide) _ _ _ rfl (World.ownsRow_made w #[] 0 nL (zL) rfl) ad xs.length _ cs rfl HCL (λj u hj=>Lib.cell?_alloc_some _ (HS j u hj)) HC1 (by unfold maxLen;omega) (by omega) (by simp) ?_;intro v' w1 hown hgrow hnil);have hv:v'≠.slice none 0 0:=λe=>by have:=(hnil.1 e).1;cases this
 have hown':w1.ownsRow w.heap.size 54 12 v' xs.length cs:=by simpa using hown
 obtain⟨g,c,rfl⟩:=Yc hown' hv;have HO:=iH hown';have hB:bW w w1:=((Below.refl _ w).alloc nL _).grown hgrow (by simp) (by intro k hk;cases hk;exact Nat.le_refl _);clear hown hgrow hnil hv hown'
 go_wp2
 go_ret;exact⟨g,c,cs,rfl,HO,HCB,hB⟩
theorem lA(cap:Nat)(w:World) :
  Calls prog 103 #[.slice none 0 cap] w (Rt (.slice none 0 0) w):=by
 have q22:∀(w:World)(a:OA)(n c n' c':Nat),(binOp .eql 30 (.slice a n c) (.slice none n' c')).run prog w=.ok (.bool a.isNone) w:=λw a n c n' c'=>Lib.run_eql_slice_nil w _ _ a n c n' c' underlying30
 go_enter func103,ntmps103
 go_wp2
 go_ret;exact⟨rfl,Below.refl _ _⟩
theorem jW(f:Value)(cap:Nat)(w:World) :
  Calls prog 65 #[.slice none 0 cap,f] w (Rt (.slice none 0 0) w):=by
 go_enter func65,ntmps65;go_wp2_with fail;refine(lA cap _).mono ?_;rintro e w1⟨rfl,hb⟩;have HB:=iH hb;clear hb
 go_wp2
 go_loopw [11] (λi wr=>i=X 0/\bW w wr) (λi _=>0)
 case atStart=>exact⟨rfl,HB⟩
 obtain⟨rfl,hB⟩:=hrel
 go_wp2
 go_ret;exact⟨rfl,hB⟩
theorem nY(xs:List Cpy)(ad:Addr)(cap lo:Nat)(w:World)(hin:sC lo w (some ad) xs)(hsm:xs.length<=1048576)(hz:SmC xs) :
  Calls prog 65 #[.slice (some ad) xs.length cap,.func (.func 66) #[] #[]] w λe w'=>∃g q,e=.returned (sP g 0 xs.length q)/\Sj w.heap.size w' (sP g 0 xs.length q) xs/\bW w w':=by
 have HI:=iH hin;have HZ:=iH hz;clear hin hz;go_enter func65,ntmps65;go_wp2_with fail;refine(pG xs ad cap lo _ HI hsm).mono ?_;rintro e w1⟨g,q,cs,rfl,hO1,hcb,hB1⟩;have HO1:=iH hO1;have HP1:Hid (PAt vCp Cpy.likes LikC 2 12 7 w.heap.size lo w1.heap.size g w w1 cs xs 0):=⟨λj x hj=>absurd hj (Nat.not_lt_zero _),λj x _ hj=>hcb j x hj,λi j _ _ _ _ _ _ _ _ _ h=>absurd h (Nat.not_lt_zero _)⟩;clear hO1 hcb
 go_wp2
 go_loopw [11] (λi wr=>∃(k:Nat)(cs:List Value),k<=xs.length/\i=X k/\Hid (wr.ownsRow w.heap.size 54 12 (sP g 0 xs.length q) xs.length cs)/\Hid (PAt vCp Cpy.likes LikC 2 12 7 w.heap.size lo wr.heap.size g w wr cs xs k)/\bW w wr) (λi _=>xs.length-(intOf i).toNat)
 case atStart=>exact⟨0,cs,zL,rfl,HO1,HP1,hB1⟩
 clear HO1 HP1 hB1;obtain⟨k,cs,hk,rfl,HO,HP,hB⟩:=hrel;by_cases hlt:k<xs.length
 .obtain⟨x,hx⟩:=gXe hlt
  have HXX:=iH hx;have Z:=iH (HZ x (List.mem_of_getElem? hx));have hgl:g<wr.heap.size:=(HO.out.lt g rfl).2;have hgb:w.heap.size<=g:=gV HO;have hcl:cs.length=xs.length*12:=HO.out.1;obtain⟨am,cm,hqc,hsm0⟩:=HP.out.old k x nL hx;have HSM:=iH hsm0;have HRA:Hid (wr.rangeAt g (k*12) (ccL x am cm)):=λj v hv=>by
   have hj:j<12:=Af hv;have h1:=HO.out.cellAt (k*12+j) (by omega);rw[hqc j v hv]at h1;exact h1
  clear hx hqc hsm0;have hza:=Blk.alloc wr CcA 54;have HTS:Hid ((wr.alloc (Obj.cells CcA 54)).there wr.heap.size 0 12):=hza.there;obtain⟨w4,HW4⟩:∃w4,Hid (w4=(wr.alloc (Obj.cells CcA 54)).setCells wr.heap.size 0 (ccL x am cm)):=⟨_,rfl⟩;have HK4:Hid (Blk wr.heap.size (ccA x am cm) 54 w4):=by
   show Blk _ _ _ _
   rw[HW4.out];exact hza.setAll (ccA x am cm) rfl
  have hbx:bW wr w4:=by
   rw[HW4.out];exact Ae nL _ _ _ ((Below.refl _ wr).alloc nL _)
  have hB4:=qTr hB hbx;have HBX:=iH hbx;have hs4:wr.heap.size<=w4.heap.size:=hbx.size;clear hza hbx hB;go_upto_region 5 with(first|(refine qLr Hb HRA ?_)|(refine Ai rfl 54 _ _ rfl wr.heap.size 0 (ccA x am cm) rfl rfl HTS Bz (by simp[Value.oneCell']) w4 HW4 ?_));clear HRA HTS HW4;go_wp2_with(first|(refine qLk Hb HK4 ?_));refine(pM x am cm lo _ (HSM.out.below LikC.holds hB4 nL) Z.out.1 Z.out.2.1 Z.out.2.2.1 Z.out.2.2.2.1 Z.out.2.2.2.2.1 Z.out.2.2.2.2.2.1 Z.out.2.2.2.2.2.2.1 Z.out.2.2.2.2.2.2.2).mono ?_;rintro e w5⟨gm,qm,rfl,hOm,hb5⟩;have hsn:=eP hOm Z.out.1 (Sy HSM);have hB5:=qTr hB4 hb5;have hBr:=HBX.out.trans (hb5.mono hs4);have HO5:=iH (Ak HO hBr);have HP5:=iH (HP.out.below LikC.holds hBr nL);have HT5:Hid (w5.there g (k*12) 12):=Dg HO5 (by omega);obtain⟨w6,HW6⟩:∃w6,Hid (w6=w5.setCells g (k*12) (vCp x (.slice gm x.likes.length qm))):=⟨_,rfl⟩;have hs6:w6.heap.size=w5.heap.size:=by rw[HW6.out,Be]
  have HO6:Hid (w6.ownsRow w.heap.size 54 12 (sP g 0 xs.length q) xs.length (Cv cs (k*12) (vCp x (.slice gm x.likes.length qm)))):=by
   have h:=Dr (vCp x (.slice gm x.likes.length qm)) _ (k*12) _ HO5;rw[<-HW6.out]at h;exact h
  have HP6:Hid (PAt vCp Cpy.likes LikC 2 12 7 w.heap.size lo w6.heap.size g w w6 (Cv cs (k*12) (vCp x (.slice gm x.likes.length qm))) xs (k+1)):=by
   have h:=PAt.step (N':=w6.heap.size) (ae:=gm) (ce:=qm) LikC.flat Iz uK HP5 HXX hcl (hsn.keep LikC.holds (Keeps.refl _ _) (by have:=hB4.size;omega)) (λb o e hn=>by
    rcases hsn.2 with h9|⟨b',o',e',⟨h8,_⟩,h7,_⟩
    .exact absurd h9 hn
    rw[e]at e';cases e'
    omega) (by have:=hBr.size;omega)
   rw[<-HW6.out]at h;exact h
  have hB6:bW w w6:=by
   rw[HW6.out];exact Ae hgb _ _ _ hB5
  unfold vCp at HW6;clear hB5 HO5 HP5 hB4 HBX hs4 hb5 hOm hsn hBr hs6 HK4 HO HP;have i0:(0:Int)<=(k:Int):=by omega
  have i1:(k:Int)<(xs.length:Int):=by omega
  go_wp2_with(first|(refine Ai rfl 54 _ _ rfl g (k*12) (ccA x gm qm) (by first|rfl|(simp[go_sem];done)) rfl HT5 Bz (by simp[Value.oneCell']) w6 HW6 ?_));go_roundw
  case rel=>exact⟨k+1,_,by omega,by go_num,HO6,HP6,hB6⟩
  simp[intOf];omega
 have hke:k=xs.length:=by omega
 subst hke
 go_wp2
 go_ret;exact⟨g,q,rfl,HP.out.done nL HO,hB⟩
theorem eH(xs:List Cpy)(a:OA)(cap lo:Nat)(w:World)(hin:sC lo w a xs)(hsm:xs.length<=1048576)(hz:SmC xs) :
  Calls prog 65 #[.slice a xs.length cap,.func (.func 66) #[] #[]] w λe w'=>∃g q,e=.returned (.slice g xs.length q)/\Sj w.heap.size w' (.slice g xs.length q) xs/\bW w w':=by
 cases a with
 |none =>
  have h0:xs=[]:=List.length_eq_zero_iff.1 (hin.nilD rfl);subst h0;refine(jW _ cap w).mono ?_;rintro e w1⟨rfl,hb⟩;exact⟨none,0,rfl,OwnA.nil,hb⟩
 |some ad =>
  refine(nY xs ad cap lo w hin hsm hz).mono ?_;rintro e w1⟨g,q,rfl,hO,hb⟩;exact⟨(O g 0),q,rfl,hO,hb⟩
section
variable {α β:Type} {V:α->Value->List Value} {sub:α->List β} {C:Eh β} {m n f:Nat}
theorem OwnA.kept{T:TypeId}{base:Nat}{w w':World}{v:Value}{l:List α}{row:Option Nat}(hC:FlatC C m)(h:OwnA V sub C m n f T base w v l)(hg:w.grownBy w' row)(hr:∀r,row=some r->r<base):OwnA V sub C m n f T base w' v l:=by
 obtain⟨cs,h1,h2,h3⟩:=h;have hv:v.ownBlock=none\/v.ownBlock≠row:=by
  cases e:v.ownBlock with
  |none=>exact .inl rfl
  |some k =>
   refine .inr (λe2=>?_);have:=(h1.lt k e).1;have:=hr k e2.symm;omega
 refine⟨cs,h1.kept hg hv,λj x hj=>?_,h3⟩;obtain⟨ae,ce,q1,q2,q3⟩:=h2 j x hj;refine⟨ae,ce,q1,Ck hC q2 hg (λb o e hn e2=>?_),λb o e hn=>⟨(q3 b o e hn).1,lL (q3 b o e hn).2 hg.size⟩⟩;have hb:=hr b e2.symm;rcases q2.2 with h9|⟨b',o',e',⟨hlo,_⟩,_⟩
 .exact hn h9
 rw[e]at e';cases e'
 omega
def KpB(lo:Nat)(a b:World):Prop:=a.heap.size<=b.heap.size/\∀x,lo<=x->x<a.heap.size->b.heap[x]?=a.heap[x]?
theorem KpB.below{lo:Nat}{a b:World}(h:bW a b):KpB lo a b:=⟨h.size,λx _ h3=>h.block x h3⟩
theorem KpB.trans{lo:Nat}{a b c:World}(h:KpB lo a b)(k:KpB lo b c):KpB lo a c:=⟨lT h.1 k.1,λx h1 h3=>(k.2 x h1 (lL h3 h.1)).trans (h.2 x h1 h3)⟩
def OwnT(V:α->Value->List Value)(sub:α->List β)(C:Eh β)(m n f:Nat)(T:TypeId)(base top:Nat)(w:World)(v:Value)(l:List α):Prop:=∃W,OwnA V sub C m n f T base W v l/\W.heap.size<=top/\KpB base W w
end
theorem KpB.sets{lo b:Nat}{a c:World}(h:KpB lo a c)(hb:b<lo)(vs:List Value)(o:Nat):KpB lo a (c.setCells b o vs):=h.trans ⟨(Di vs o c).size,λx h1 h3=>(Di vs o c).block x h3 (λe=>by cases e;omega)⟩
def NwRes(x:Flt)(w:World)(e:Ending)(w':World):Prop:=∃(g1:OA)(q1:Nat)(g2:OA)(q2:Nat)(g3:OA)(q3 B1 B2 B3:Nat),e=.returned (.agg (ffA x g1 q1 g2 q2 g3 q3))/\0<B1/\w.heap.size<=B1/\B1<=B2/\B2<=B3/\B3<=w'.heap.size
 /\ OwnT vBr Brt.marks StrC 1 6 2 92 B1 B2 w' (.slice g1 x.berths.length q1) x.berths/\tY B1 w' (.slice g1 x.berths.length q1) x.berths
 /\ w'.ownsRow B2 88 2 (.slice g2 x.services.length q2) x.services.length (Ds x.services)/\(∀b,(Value.slice g2 x.services.length q2).ownBlock=some b->b<B3)
 /\ Sj B3 w' (.slice g3 x.copies.length q3) x.copies/\bW w w'
theorem bU(x:Flt)(a1:OA)(c1:Nat)(a2:OA)(c2:Nat)(a3:OA)(c3 lo:Nat)(w:World)(n1:sB lo w a1 x.berths)(n2:sV lo w a2 x.services)(n3:sC lo w a3 x.copies)(hls:x.services.length<=1048576)(hlb:x.berths.length<=1048576)(hlc:x.copies.length<=1048576)(hsb:SmB x.berths)(hss:Wd x.services 1048576)(hsc:SmC x.copies) :
  Calls prog 25 #[.agg (ffA x a1 c1 a2 c2 a3 c3)] w λe w'=>NwRes x w e w':=by
 have HN1:=iH n1;have HN2:=iH n2;have HN3:=iH n3;have HSB:=iH hsb;have HSS:=iH hss;have HSC:=iH hsc;clear n1 n2 n3 hsb hss hsc;have hB3:=bl2 w (ffA x a1 c1 a2 c2 a3 c3) 32 FfA 32;have h1:=Blk.alloc w (ffA x a1 c1 a2 c2 a3 c3) 32;have HX:=iH (h1.below ((Below.refl _ _).alloc nL (Obj.cells FfA 32)) h1.lt);have HZ:=al2 w (ffA x a1 c1 a2 c2 a3 c3) 32 FfA 32;clear h1;go_enter func25,ntmps25;go_upto_region 1 with fail;generalize((w.alloc (Obj.cells (ffA x a1 c1 a2 c2 a3 c3) 32)).alloc (Obj.cells FfA 32))=w3 at *;refine wp_region_held_drew (S:=λwy=>Blk w.heap.size (ffA x a1 c1 a2 c2 a3 c3) 32 wy) (by kernel_rfl) HX.out.drew (λhS=>?_);have hB4:=hB3.drew;have HZ4:=iH HZ.out.drew;have hl4:w.heap.size+1<w3.drew.heap.size:=HZ4.out.lt;clear HX HZ hB3;generalize w3.drew=w4 at *;refine tz 0 3 (pP w.heap.size 0) ?_;refine ty 1 ⟨some 4,_,_,_,_,none⟩ (.bool x.pack) ?_ ?_
 .intro wy hy
  have h0:=Blk.cell hy (o:=0) rfl;clear hy;go_simp
 refine tz 2 5 (pP w.heap.size 1) ?_;refine ty 3 ⟨some 6,_,_,_,_,none⟩ (.slice a1 x.berths.length c1) ?_ ?_
 .intro wy hy
  have h0:=Blk.cell hy (o:=1) rfl;clear hy;go_simp
 refine tz 5 8 (pP w.heap.size 2) ?_;refine ty 6 ⟨some 9,_,_,_,_,none⟩ (.slice a2 x.services.length c2) ?_ ?_
 .intro wy hy
  have h0:=Blk.cell hy (o:=2) rfl;clear hy;go_simp
 refine tz 8 11 (pP w.heap.size 3) ?_;refine ty 9 ⟨some 12,_,_,_,_,none⟩ (.slice a3 x.copies.length c3) ?_ ?_
 .intro wy hy
  have h0:=Blk.cell hy (o:=3) rfl;clear hy;go_simp
 refine rd1 4 ⟨some 7,_,_,_,_,none⟩ rfl (λK hK=>?_);go_simp;refine(iC x.berths a1 c1 lo _ (HN1.out.below BrtC.holds hB4 nL) hlb HSB).mono ?_;rintro e w5⟨g1,q1,rfl,hO1,hb⟩;have HO1:=iH hO1;have hB5:=qTr hB4 hb;have HZ5:=qBk HZ4 hb;have hs5:w4.heap.size<=w5.heap.size:=hb.size;clear hO1 HZ4;refine hK.out _ _ (Blk.below hS hb (Blk.lt hS)) (λhS=>?_);clear hK K hb;refine rd1 7 ⟨some 10,_,_,_,_,none⟩ rfl (λK hK=>?_);go_simp;refine(eQ x.services a2 c2 lo _ (HN2.out.below SvcC.holds hB5 nL) hls HSS).mono ?_;rintro e w6⟨g2,q2,rfl,hO2,hb⟩;have HO2:=iH hO2;have HK6:Hid (KpB w4.heap.size w5 w6):=KpB.below hb;have HO16:=iH (HO1.out.below StrC.holds hb);have hB6:=qTr hB5 hb;have HZ6:=qBk HZ5 hb;have hs6:w5.heap.size<=w6.heap.size:=hb.size;clear hO2 HZ5;refine hK.out _ _ (Blk.below hS hb (Blk.lt hS)) (λhS=>?_);clear hK K hb;refine rd1 10 ⟨some 13,_,_,_,_,none⟩ rfl (λK hK=>?_);go_simp;refine(eH x.copies a3 c3 lo _ (HN3.out.below CpyC.holds hB6 nL) hlc HSC).mono ?_;rintro e w7⟨g3,q3,rfl,hO3,hb⟩;have HO3:=iH hO3;have HK7:Hid (KpB w4.heap.size w5 w7):=HK6.out.trans (KpB.below hb);have HO17:=iH (HO16.out.below StrC.holds hb);have HO27:=iH (Ak HO2 hb);have HL2:Hid (∀b,(Value.slice g2 x.services.length q2).ownBlock=some b->b<w6.heap.size):=λb e=>(HO2.out.lt b e).2
 have hB7:=qTr hB6 hb;have HZ7:=qBk HZ6 hb;have hs7:w6.heap.size<=w7.heap.size:=hb.size;clear hO3 HZ6 HO16 HK6;refine hK.out _ _ (Blk.below hS hb (Blk.lt hS)) (λhS=>?_);clear hK K hb;refine tz 11 14 (.agg (ffA x g1 q1 g2 q2 g3 q3)) ?_;refine rd1 12 ⟨none,_,_,_,_,none⟩ rfl (λK hK=>?_);rw[if_pos (by rfl)];refine wp_store_mid 32 (.tmp 2) (.tmp 14) (by rfl) (w.heap.size+1) 0 (ffA x g1 q1 g2 q2 g3 q3) (by rfl) (by rfl) HZ7.out.there Cf (by simp[Value.oneCell']) ?_;obtain⟨wf,HE⟩:∃wf,Hid (wf=(w7.setCells (w.heap.size+1) 0 (ffL x g1 q1 g2 q2 g3 q3))):=⟨_,rfl⟩;have hgw:w7.grownBy wf (some (w.heap.size+1)):=by rw[HE.out];exact Di _ _ _
 have hXf:Blk w.heap.size (ffA x a1 c1 a2 c2 a3 c3) 32 wf:=Blk.grown hS hgw (by intro e;have:=Option.some.inj e;omega);have HRf:Hid (wf.rangeAt (w.heap.size+1) 0 (ffL x g1 q1 g2 q2 g3 q3)):=by
  show World.rangeAt _ _ _ _
  rw[HE.out];exact World.rangeAt_setCells_same _ _ _ _ HZ7.out.there
 have HF:Hid (NwRes x w (.returned (.agg (ffA x g1 q1 g2 q2 g3 q3))) wf):=by
  have hr:∀(B r:Nat),w4.heap.size<=B->some (w.heap.size+1)=some r->r<B:=λB r hB e=>by cases e;omega
  refine⟨g1,q1,g2,q2,g3,q3,w4.heap.size,w5.heap.size,w6.heap.size,rfl,by omega,by omega,hs5,hs6,lT hs7 hgw.size,⟨w5,HO1,Nat.le_refl _,?_⟩,HO17.out.kept StrC.flat hgw (λr e=>hr _ r nL e),HO27.out.kept hgw ?_,HL2,HO3.out.kept LikC.flat hgw (λr e=>hr _ r (by omega) e),?_⟩
  .rw[HE.out];exact HK7.out.sets (by omega) _ _
  .cases e:(Value.slice g2 x.services.length q2).ownBlock with
   |none=>exact .inl rfl
   |some b =>
    refine .inr (λe2=>?_);have h8:=(HO27.out.lt b e).1;have h9:=Option.some.inj e2;omega
  exact hB7.grown hgw hB7.size (λr e=>by cases e;omega)
 rw[<-HE.out];refine hK.out _ _ hXf (λhS=>?_);clear hK K;refine td ?_;clear hS hXf;go_wp2_with fail;exact bodyPost_ret (Ay rfl _ _ (w.heap.size+1) (ffL x g1 q1 g2 q2 g3 q3) _ rfl HRf underlying32 rfl Cf) rfl HF
end Go.Proofs.YthboopnmbglkjaaGreat
