import Derived.Test.YtihnjndnkgnmaaaGreatJ12
set_option maxHeartbeats 4000000
namespace Go.Proofs.YtihnjndnkgnmaaaGreat
set_option maxRecDepth 100000
open Go.RowKit
section
variable {α β:Type} {V:α→Value→List Value} {sub:α→List β} {C:Db β} {m n:Nat}
def EAt (V:α→Value→List Value) (sub:α→List β) (C:Db β) (m n lo:Nat) (w:World) (ds:List Value) (l:List α):Prop :=
 ∀ j x,l[j]?=some x→∃ (ae:OA) (ce:Nat),(∀ i u,(V x (.slice ae (sub x).length ce))[i]?=some u→ds[j*n+i]?=some u)∧SliceC C m lo w ae (sub x)
theorem EAt.below {lo:Nat} {w w':World} {ds:List Value} {l:List α} (hC:Dy C m) (h:EAt V sub C m n lo w ds l) {B:Nat} (hb:Below B w w') (hB:w.heap.size≤B):EAt V sub C m n lo w' ds l:=by
 intro j x hj;obtain ⟨ae,ce,q1,q2⟩:=h j x hj;exact ⟨ae,ce,q1,q2.below hC hb hB⟩
theorem EAt.take {lo:Nat} {w:World} {ds:List Value} {l:List α} (hV:∀ x s,(V x s).length=n) (h:EAt V sub C m n lo w ds l) (k:Nat):EAt V sub C m n lo w (ds.take (k*n)) (l.take k):=by
 intro j x hj;have hjk:j<k:=by have h1:=Ae hj;rw [List.length_take] at h1;omega
 rw [List.getElem?_take_of_lt hjk] at hj;obtain ⟨ae,ce,q1,q2⟩:=h j x hj;refine ⟨ae,ce,fun i u hu=>?_,q2⟩;have hi:i<n:=by have:=Ae hu;rwa [hV] at this
 have:(j+1)*n≤k*n:=Nat.mul_le_mul_right n (by omega);rw [Nat.add_mul] at this;rw [List.getElem?_take_of_lt (by omega)];exact q1 i u hu
theorem EAt.drop {lo:Nat} {w:World} {ds:List Value} {l:List α} (h:EAt V sub C m n lo w ds l) (k:Nat):EAt V sub C m n lo w (ds.drop (k*n)) (l.drop k):=by
 intro j x hj;rw [List.getElem?_drop] at hj;obtain ⟨ae,ce,q1,q2⟩:=h (k+j) x hj;refine ⟨ae,ce,fun i u hu=>?_,q2⟩;rw [List.getElem?_drop,show k*n+(j*n+i)=(k+j)*n+i by rw [Nat.add_mul];omega];exact q1 i u hu
theorem EAt.app {lo:Nat} {w:World} {ds es:List Value} {l r:List α} (hV:∀ x s,(V x s).length=n) (hd:ds.length=l.length*n) (h:EAt V sub C m n lo w ds l) (k:EAt V sub C m n lo w es r):EAt V sub C m n lo w (ds++es) (l++r):=by
 intro j x hj;by_cases hlt:j<l.length
 ·rw [List.getElem?_append_left hlt] at hj
  obtain ⟨ae,ce,q1,q2⟩:=h j x hj;refine ⟨ae,ce,fun i u hu=>?_,q2⟩;have hi:i<n:=by have:=Ae hu;rwa [hV] at this
  have:(j+1)*n≤l.length*n:=Nat.mul_le_mul_right n (by omega);rw [Nat.add_mul] at this;rw [List.getElem?_append_left (by rw [hd];omega)];exact q1 i u hu
 ·rw [List.getElem?_append_right (by omega)] at hj
  obtain ⟨ae,ce,q1,q2⟩:=k _ x hj;refine ⟨ae,ce,fun i u hu=>?_,q2⟩;have hjn:l.length*n≤j*n:=Nat.mul_le_mul_right n (by omega);rw [List.getElem?_append_right (by rw [hd];omega),hd];have:=q1 i u hu
  rwa [show (j - l.length)*n+i=j*n+i - l.length*n by rw [Nat.sub_mul];omega] at this
theorem EAt.one {lo:Nat} {w:World} {x:α} {ae:OA} {ce:Nat} (hs:SliceC C m lo w ae (sub x)):EAt V sub C m n lo w (V x (.slice ae (sub x).length ce)) [x]:=by
 intro j y hj;have hj0:j=0:=by have:=Ae hj;simpa using this
 subst hj0;cases hj
 exact ⟨ae,ce,fun i u hu=>by rw [Nat.zero_mul,Nat.zero_add];exact hu,hs⟩
end
theorem Gy {w:World} {b o k cap len n:Nat} {cs:List Value} (hl:cs.length=len*n) (hcap:len≤cap) (hk:k≤len) (h:∀ j u,cs[j]?=some u→w.cell? ((⟨b,o,none⟩:Addr).add j)=some u) :
  ∃ ro:Nat,(if cap=k then some (⟨b,o,none⟩:Addr) else some ⟨b,o+k*n,none⟩)=some ⟨b,ro,none⟩∧∀ j u,(cs.drop (k*n))[j]?=some u→w.cell? ((⟨b,ro,none⟩:Addr).add j)=some u:=by
 split
 ·refine ⟨_,rfl,fun j u hj=>?_⟩
  rw [List.getElem?_drop] at hj;have h9:=Ae hj;have:k=len:=by omega
  subst this;omega
 ·refine ⟨_,rfl,fun j u hj=>?_⟩
  rw [List.getElem?_drop] at hj;have:=h _ u hj;rw [Addr.add_mid] at this ⊢;rw [Nat.add_assoc];exact this
theorem Kk {base lo:Nat} {w:World} {v:Value} {l:List Brt} {cs:List Value} (h1:w.ownsRow base 45 6 v l.length cs) (hlo:lo≤base) (h2:EAt vBr Brt.marks StrC 1 6 lo w cs l) (hz:SzB l) (hm:l.length≤maxLen):∃ a q,v=.slice a l.length q∧SliceC BrtC 6 lo w a l :=
 Se h1 hlo h2 Bk hm (fun _ y ae ce hy hf hs=>⟨ae,ce,hf 0 _ rfl,hf 1 _ rfl,hf 2 _ rfl,hf 3 _ rfl,hf 4 _ rfl,hf 5 _ rfl,(hz y hy).1,(hz y hy).2,hs⟩)
theorem Xq (xs:List Brt) (x:Brt) (b o:Nat) (ax:OA) (cap cx lo:Nat) (W0 w:World) (hB0:Below W0.heap.size W0 w) (hin:SliceC BrtC 6 lo W0 (some ⟨b,o,none⟩) xs) (hx:SliceC StrC 1 lo W0 ax x.marks) (hsm:xs.length≤100) (hcap:xs.length≤cap) (hcap9:cap≤maxLen) (hmono:∀ (j k:Nat) u v,j≤k→xs[j]?=some u→xs[k]?=some v→Lib.compareBytes v.name.data.toList x.name.data.toList<0→Lib.compareBytes u.name.data.toList x.name.data.toList<0) :
  Calls Tryz.prog 120 #[.slice (some ⟨b,o,none⟩) xs.length cap,.agg (bbA x ax cx),.func (.func 86) #[] #[]] w fun e w'=>∃ vv ds,e=.returned vv∧w'.ownsRow w.heap.size 45 6 vv (Aq Brt.name xs x).length ds∧EAt vBr Brt.marks StrC 1 6 lo W0 ds (Aq Brt.name xs x)∧Below w.heap.size w w':=by
 obtain ⟨cs,hc1,hc2,hc3,hc4⟩:=Jh hin;have HC1:=iH hc1;have HC2:=iH hc2;have HC3:=iH hc3;have HC4:Hid (EAt vBr Brt.marks StrC 1 6 lo W0 cs xs):=hc4;have HI:=iH hin;have HX:=iH hx;have HM:=iH hmono;have HCP:=iH hcap;unfold maxLen at hcap9;clear hc1 hc2 hc3 hc4 hin hx hmono;have h1:=Blk.alloc w (bbA x ax cx) 45;have HK2:=iH (h1.below ((Below.refl _ _).alloc nL (Obj.cells #[.func (.func 86) #[] #[]] 130)) h1.lt);have HN2:=al2 w (bbA x ax cx) 45 #[.func (.func 86) #[] #[]] 130;have hB2:=bl2 w (bbA x ax cx) 45 #[.func (.func 86) #[] #[]] 130;clear h1;go_enter Tryz.func120,Tryz.ntmps120;go_upto_region 2 with fail;generalize ((w.alloc (Obj.cells (bbA x ax cx) 45)).alloc (Obj.cells #[.func (.func 86) #[] #[]] 130))=w2 at *;have kn:w2.cell? ⟨w.heap.size+1,0,none⟩=some (.func (.func 86) #[] #[]):=HN2.out.cell rfl;go_wp2_with (refine lk Gg HK2 ?_);refine (Di x ax cx _).mono ?_;rintro e w3 ⟨rfl,hb3⟩;have HK3:=qb HK2 hb3;have HN3:=qb HN2 hb3;have hB3:=qt hB2 hb3;clear hb3 hB2 HK2 HN2 kn;go_wp2_with fail;refine (cS xs x.name _ cap lo (w.heap.size+1) _ (HI.out.below BrtC.holds (qt hB0 hB3) nL) (by omega) (HN3.out.cell rfl) HM).mono ?_;rintro e w4 ⟨i,q,rfl,hi,h1,h2,hq,hb4⟩;have HPE:=iH (fI (nm:=Brt.name) (a:=x) hi h1 h2 hq);have HK4:=qb HK3 hb4;have hB4:=qt hB3 hb4;have HQI:Hid (q=true→i<xs.length):=fun h=>by
  obtain ⟨y,h9,_⟩:=hq.1 h;exact Ae h9
 clear h1 h2 hq hb4 hB3 HK3 HN3 HM HI
 cases q with
 | true =>
  have hil:=HQI.out rfl;rw [if_pos rfl] at HPE;clear HQI;go_upto_region 6 with fail;obtain ⟨r,hr⟩:∃ r:Nat,r=i+1:=⟨_,rfl⟩;have hri:((i:Int)+1)=(r:Int):=by omega
  try rw [hri]
  rw [← hr] at HPE;have hrl:r≤xs.length:=by omega
  clear hri hr;refine wp_region_held_drew (S:=fun wy=>Blk w.heap.size (bbA x ax cx) 45 wy) (by kernel_rfl) HK4.out.drew (fun hS=>?_);have hBd:=hB4.drew;clear HK4 hB4;generalize w4.drew=wn at *;obtain ⟨ro,hrb,hrc⟩:=Gy (w:=W0) (b:=b) (o:=o) (k:=r) (cap:=cap) (len:=xs.length) (n:=6) (cs:=cs) HC1 hcap hrl HC2;have HRC:=iH hrc;clear hrc;refine tz 0 25 (.slice (some ⟨b,o,none⟩) xs.length cap) rfl hS ?_;simp only [pX];refine tz 1 26 (.int .i64 i) rfl hS ?_;simp only [pX];refine x3 2 27 (.slice (some ⟨b,o,none⟩) i cap) rfl hS ?_;simp only [pX];refine tm 3 28 w.heap.size 0 (bbL x ax cx) rfl (fun _ h=>h.rangeA) Tryz.underlying45 Cc hS ?_;simp only [pX];refine tz 5 30 (.slice (some ⟨b,o,none⟩) xs.length cap) rfl hS ?_;simp only [pX];refine tz 6 31 (.int .i64 r) rfl hS ?_;simp only [pX];refine ty 7 ⟨some 32,_,_,_,_,none⟩ (.slice (some ⟨b,ro,none⟩) (xs.length - r) (cap - r)) rfl (by rfl) ?_ hS ?_
  ·intro wy hy
   clear hy
   (rw [← hrb];go_simp;try omega)
  simp only [pX];clear hrb;refine rd1 4 ⟨some 29,_,_,_,_,none⟩ rfl (fun K hK=>?_);go_simp;have hal:=(Below.refl _ wn).alloc nL (Obj.cells (bbA x ax cx) 45);have NC:=iH (Blk.alloc wn (bbA x ax cx) 45);have hBe:=qt hBd hal;refine hK.out _ _ (hS.below hal hS.lt) (fun hS=>?_);clear hK K hal hBd;generalize wn.heap.size=gN at *;generalize wn.alloc (Obj.cells (bbA x ax cx) 45)=wo at *;refine rd1 8 ⟨some 33,_,_,_,_,none⟩ rfl (fun K hK=>?_);go_simp;have hal:=(Below.refl _ wo).alloc nL (Obj.cells #[.slice (some ⟨b,o,none⟩) i cap,.slice (some ⟨gN,0,none⟩) 1 1,.slice (some ⟨b,ro,none⟩) (xs.length - r) (cap - r)] 37);have PB:=iH (Blk.alloc wo #[.slice (some ⟨b,o,none⟩) i cap,.slice (some ⟨gN,0,none⟩) 1 1,.slice (some ⟨b,ro,none⟩) (xs.length - r) (cap - r)] 37);have hBf:=qt hBe hal;have NC2:=qb NC hal;refine hK.out _ _ (hS.below hal hS.lt) (fun hS=>?_);clear hK K hal hBe NC;generalize wo.heap.size=gP at *;generalize wo.alloc (Obj.cells #[.slice (some ⟨b,o,none⟩) i cap,.slice (some ⟨gN,0,none⟩) 1 1,.slice (some ⟨b,ro,none⟩) (xs.length - r) (cap - r)] 37)=wq at *;have HPS:Hid (∀ k y,([⟨some ⟨b,o,none⟩,i,cap,cs.take (i*6)⟩,⟨some ⟨gN,0,none⟩,1,1,vBr x (.slice ax x.marks.length cx)⟩,⟨some ⟨b,ro,none⟩,xs.length - r,cap - r,cs.drop (r*6)⟩]:List Iz)[k]?=some y→PartOk 6 wq y∧wq.cell? ⟨gP,k,none⟩=some (.slice y.ad y.len y.cap)):=by
   intro k y hy;have hk3:k<3:=Ae hy;have hc:k=0∨k=1∨k=2:=by omega
   rcases hc with rfl | rfl | rfl
   ·cases hy
    refine ⟨⟨fun h=>(by cases h),?_,fun ad e j u hj=>?_,fun u hu=>HC3.out u (List.mem_of_mem_take hu)⟩,PB.out.cell rfl⟩
    ·show (cs.take (i*6)).length=i*6
     rw [List.length_take,HC1.out];have h9:=Nat.mul_le_mul_right 6 hi;omega
    ·cases e
     have hj2:cs[j]?=some u:=by
      have h9:=Ae hj;simp only [List.length_take] at h9
      rwa [List.getElem?_take_of_lt (by omega)] at hj
     exact ((qt hB0 hBf).cell (p:=(⟨b,o,none⟩:Addr).add j) (block_lt_of_cell (HC2 j u hj2))).trans (HC2 j u hj2)
   ·cases hy
    refine ⟨⟨fun h=>(by cases h),by rfl,fun ad e j u hj=>?_,Hy x ax _ cx⟩,PB.out.cell rfl⟩;cases e
    rw [Addr.add_mid];exact NC2.out.rangeA j u hj
   ·cases hy
    refine ⟨⟨fun h=>(by cases h),?_,fun ad e j u hj=>?_,fun u hu=>HC3.out u (List.mem_of_mem_drop hu)⟩,PB.out.cell rfl⟩
    ·show (cs.drop (r*6)).length=(xs.length - r)*6
     rw [List.length_drop,HC1.out,Nat.sub_mul]
    ·cases e
     have h9:=HRC.out j u hj;exact ((qt hB0 hBf).cell (p:=(⟨b,ro,none⟩:Addr).add j) (block_lt_of_cell h9)).trans h9
  have HLN:Hid (Ee [⟨some ⟨b,o,none⟩,i,cap,cs.take (i*6)⟩,⟨some ⟨gN,0,none⟩,1,1,vBr x (.slice ax x.marks.length cx)⟩,⟨some ⟨b,ro,none⟩,xs.length - r,cap - r,cs.drop (r*6)⟩]=i+1+(xs.length - r)):=by show _=_;simp [Ee];omega
  refine rd1 9 ⟨some 34,_,_,_,_,none⟩ rfl (fun K hK=>?_);go_simp;refine (Kx [⟨some ⟨b,o,none⟩,i,cap,cs.take (i*6)⟩,⟨some ⟨gN,0,none⟩,1,1,vBr x (.slice ax x.marks.length cx)⟩,⟨some ⟨b,ro,none⟩,xs.length - r,cap - r,cs.drop (r*6)⟩] gP 3 _ rfl (by omega) HPS PB.out.lt (by have h9:=HLN.out;omega)).mono ?_;rintro e wr ⟨v,rfl,hO,hbe⟩;refine hK.out _ _ (hS.below hbe hS.lt) (fun hS=>?_);clear hK K;have hBg:=qt hBf hbe;have hpl:(Aq Brt.name xs x).length=i+1+(xs.length - r):=by
   rw [HPE.out,List.length_append,List.length_take,List.length_cons,List.length_drop];omega
  have hOO:wr.ownsRow w.heap.size 45 6 v (Aq Brt.name xs x).length (Ca [⟨some ⟨b,o,none⟩,i,cap,cs.take (i*6)⟩,⟨some ⟨gN,0,none⟩,1,1,vBr x (.slice ax x.marks.length cx)⟩,⟨some ⟨b,ro,none⟩,xs.length - r,cap - r,cs.drop (r*6)⟩]):=by rw [hpl,← HLN.out];exact Ct hO hBf.size
  have hEE:EAt vBr Brt.marks StrC 1 6 lo W0 (Ca [⟨some ⟨b,o,none⟩,i,cap,cs.take (i*6)⟩,⟨some ⟨gN,0,none⟩,1,1,vBr x (.slice ax x.marks.length cx)⟩,⟨some ⟨b,ro,none⟩,xs.length - r,cap - r,cs.drop (r*6)⟩]) (Aq Brt.name xs x):=by
   rw [HPE.out];have e1:=(HC4.out.take Bk i);have e2:=(EAt.one (V:=vBr) (n:=6) (ce:=cx) HX);have e3:=(HC4.out.drop r);have e4:=e1.app Bk (by rw [List.length_take,List.length_take,HC1.out,Nat.min_eq_left hi,Nat.min_eq_left (Nat.mul_le_mul_right 6 hi)]) (e2.app Bk (by rw [Bk];rfl) e3);simpa [Ca] using e4
  have HOO:=iH hOO;have HEE:=iH hEE;clear hO hOO hEE hpl HPS PB NC2 HLN hbe hBf HRC;refine tz 10 6 v rfl hS ?_;simp only [pX];refine td ?_;clear hS;go_wp2_with fail;go_ret;exact ⟨_,_,rfl,HOO,HEE,hBg⟩
 | false =>
  rw [if_neg (by simp)] at HPE;clear HQI;go_upto_region 6 with fail;have hrl:i≤xs.length:=hi;refine wp_region_held_drew (S:=fun wy=>Blk w.heap.size (bbA x ax cx) 45 wy) (by kernel_rfl) HK4.out.drew (fun hS=>?_);have hBd:=hB4.drew;clear HK4 hB4;generalize w4.drew=wn at *;obtain ⟨ro,hrb,hrc⟩:=Gy (w:=W0) (b:=b) (o:=o) (k:=i) (cap:=cap) (len:=xs.length) (n:=6) (cs:=cs) HC1 hcap hrl HC2;have HRC:=iH hrc;clear hrc;refine tz 0 25 (.slice (some ⟨b,o,none⟩) xs.length cap) rfl hS ?_;simp only [pX];refine tz 1 26 (.int .i64 i) rfl hS ?_;simp only [pX];refine x3 2 27 (.slice (some ⟨b,o,none⟩) i cap) rfl hS ?_;simp only [pX];refine tm 3 28 w.heap.size 0 (bbL x ax cx) rfl (fun _ h=>h.rangeA) Tryz.underlying45 Cc hS ?_;simp only [pX];refine tz 5 30 (.slice (some ⟨b,o,none⟩) xs.length cap) rfl hS ?_;simp only [pX];refine tz 6 31 (.int .i64 i) rfl hS ?_;simp only [pX];refine ty 7 ⟨some 32,_,_,_,_,none⟩ (.slice (some ⟨b,ro,none⟩) (xs.length - i) (cap - i)) rfl (by rfl) ?_ hS ?_
  ·intro wy hy
   clear hy
   (rw [← hrb];go_simp;try omega)
  simp only [pX];clear hrb;refine rd1 4 ⟨some 29,_,_,_,_,none⟩ rfl (fun K hK=>?_);go_simp;have hal:=(Below.refl _ wn).alloc nL (Obj.cells (bbA x ax cx) 45);have NC:=iH (Blk.alloc wn (bbA x ax cx) 45);have hBe:=qt hBd hal;refine hK.out _ _ (hS.below hal hS.lt) (fun hS=>?_);clear hK K hal hBd;generalize wn.heap.size=gN at *;generalize wn.alloc (Obj.cells (bbA x ax cx) 45)=wo at *;refine rd1 8 ⟨some 33,_,_,_,_,none⟩ rfl (fun K hK=>?_);go_simp;have hal:=(Below.refl _ wo).alloc nL (Obj.cells #[.slice (some ⟨b,o,none⟩) i cap,.slice (some ⟨gN,0,none⟩) 1 1,.slice (some ⟨b,ro,none⟩) (xs.length - i) (cap - i)] 37);have PB:=iH (Blk.alloc wo #[.slice (some ⟨b,o,none⟩) i cap,.slice (some ⟨gN,0,none⟩) 1 1,.slice (some ⟨b,ro,none⟩) (xs.length - i) (cap - i)] 37);have hBf:=qt hBe hal;have NC2:=qb NC hal;refine hK.out _ _ (hS.below hal hS.lt) (fun hS=>?_);clear hK K hal hBe NC;generalize wo.heap.size=gP at *;generalize wo.alloc (Obj.cells #[.slice (some ⟨b,o,none⟩) i cap,.slice (some ⟨gN,0,none⟩) 1 1,.slice (some ⟨b,ro,none⟩) (xs.length - i) (cap - i)] 37)=wq at *;have HPS:Hid (∀ k y,([⟨some ⟨b,o,none⟩,i,cap,cs.take (i*6)⟩,⟨some ⟨gN,0,none⟩,1,1,vBr x (.slice ax x.marks.length cx)⟩,⟨some ⟨b,ro,none⟩,xs.length - i,cap - i,cs.drop (i*6)⟩]:List Iz)[k]?=some y→PartOk 6 wq y∧wq.cell? ⟨gP,k,none⟩=some (.slice y.ad y.len y.cap)):=by
   intro k y hy;have hk3:k<3:=Ae hy;have hc:k=0∨k=1∨k=2:=by omega
   rcases hc with rfl | rfl | rfl
   ·cases hy
    refine ⟨⟨fun h=>(by cases h),?_,fun ad e j u hj=>?_,fun u hu=>HC3.out u (List.mem_of_mem_take hu)⟩,PB.out.cell rfl⟩
    ·show (cs.take (i*6)).length=i*6
     rw [List.length_take,HC1.out];have h9:=Nat.mul_le_mul_right 6 hi;omega
    ·cases e
     have hj2:cs[j]?=some u:=by
      have h9:=Ae hj;simp only [List.length_take] at h9
      rwa [List.getElem?_take_of_lt (by omega)] at hj
     exact ((qt hB0 hBf).cell (p:=(⟨b,o,none⟩:Addr).add j) (block_lt_of_cell (HC2 j u hj2))).trans (HC2 j u hj2)
   ·cases hy
    refine ⟨⟨fun h=>(by cases h),by rfl,fun ad e j u hj=>?_,Hy x ax _ cx⟩,PB.out.cell rfl⟩;cases e
    rw [Addr.add_mid];exact NC2.out.rangeA j u hj
   ·cases hy
    refine ⟨⟨fun h=>(by cases h),?_,fun ad e j u hj=>?_,fun u hu=>HC3.out u (List.mem_of_mem_drop hu)⟩,PB.out.cell rfl⟩
    ·show (cs.drop (i*6)).length=(xs.length - i)*6
     rw [List.length_drop,HC1.out,Nat.sub_mul]
    ·cases e
     have h9:=HRC.out j u hj;exact ((qt hB0 hBf).cell (p:=(⟨b,ro,none⟩:Addr).add j) (block_lt_of_cell h9)).trans h9
  have HLN:Hid (Ee [⟨some ⟨b,o,none⟩,i,cap,cs.take (i*6)⟩,⟨some ⟨gN,0,none⟩,1,1,vBr x (.slice ax x.marks.length cx)⟩,⟨some ⟨b,ro,none⟩,xs.length - i,cap - i,cs.drop (i*6)⟩]=i+1+(xs.length - i)):=by show _=_;simp [Ee];omega
  refine rd1 9 ⟨some 34,_,_,_,_,none⟩ rfl (fun K hK=>?_);go_simp;refine (Kx [⟨some ⟨b,o,none⟩,i,cap,cs.take (i*6)⟩,⟨some ⟨gN,0,none⟩,1,1,vBr x (.slice ax x.marks.length cx)⟩,⟨some ⟨b,ro,none⟩,xs.length - i,cap - i,cs.drop (i*6)⟩] gP 3 _ rfl (by omega) HPS PB.out.lt (by have h9:=HLN.out;omega)).mono ?_;rintro e wr ⟨v,rfl,hO,hbe⟩;refine hK.out _ _ (hS.below hbe hS.lt) (fun hS=>?_);clear hK K;have hBg:=qt hBf hbe;have hpl:(Aq Brt.name xs x).length=i+1+(xs.length - i):=by
   rw [HPE.out,List.length_append,List.length_take,List.length_cons,List.length_drop];omega
  have hOO:wr.ownsRow w.heap.size 45 6 v (Aq Brt.name xs x).length (Ca [⟨some ⟨b,o,none⟩,i,cap,cs.take (i*6)⟩,⟨some ⟨gN,0,none⟩,1,1,vBr x (.slice ax x.marks.length cx)⟩,⟨some ⟨b,ro,none⟩,xs.length - i,cap - i,cs.drop (i*6)⟩]):=by rw [hpl,← HLN.out];exact Ct hO hBf.size
  have hEE:EAt vBr Brt.marks StrC 1 6 lo W0 (Ca [⟨some ⟨b,o,none⟩,i,cap,cs.take (i*6)⟩,⟨some ⟨gN,0,none⟩,1,1,vBr x (.slice ax x.marks.length cx)⟩,⟨some ⟨b,ro,none⟩,xs.length - i,cap - i,cs.drop (i*6)⟩]) (Aq Brt.name xs x):=by
   rw [HPE.out];have e1:=(HC4.out.take Bk i);have e2:=(EAt.one (V:=vBr) (n:=6) (ce:=cx) HX);have e3:=(HC4.out.drop i);have e4:=e1.app Bk (by rw [List.length_take,List.length_take,HC1.out,Nat.min_eq_left hi,Nat.min_eq_left (Nat.mul_le_mul_right 6 hi)]) (e2.app Bk (by rw [Bk];rfl) e3);simpa [Ca] using e4
  have HOO:=iH hOO;have HEE:=iH hEE;clear hO hOO hEE hpl HPS PB NC2 HLN hbe hBf HRC;refine tz 10 6 v rfl hS ?_;simp only [pX];refine td ?_;clear hS;go_wp2_with fail;go_ret;exact ⟨_,_,rfl,HOO,HEE,hBg⟩
theorem cH (xs:List Brt) (b o k:Nat) (cap lo:Nat) (W0 w:World) (hB0:Below W0.heap.size W0 w) (hin:SliceC BrtC 6 lo W0 (some ⟨b,o,none⟩) xs) (hsm:xs.length≤100) (hcap:xs.length≤cap) (hcap9:cap≤maxLen) (hk:k<xs.length) :
  Calls Tryz.prog 121 #[.slice (some ⟨b,o,none⟩) xs.length cap,.int .i64 k] w fun e w'=>∃ vv ds,e=.returned vv∧w'.ownsRow w.heap.size 45 6 vv (xs.take k++xs.drop (k+1)).length ds∧EAt vBr Brt.marks StrC 1 6 lo W0 ds (xs.take k++xs.drop (k+1))∧Below w.heap.size w w':=by
 obtain ⟨cs,hc1,hc2,hc3,hc4⟩:=Jh hin;have HC1:=iH hc1;have HC2:=iH hc2;have HC3:=iH hc3;have HC4:Hid (EAt vBr Brt.marks StrC 1 6 lo W0 cs xs):=hc4;unfold maxLen at hcap9;clear hc1 hc2 hc3 hc4 hin;go_enter Tryz.func121,Tryz.ntmps121;go_upto_region 1 with fail;refine wp_region_held_drew (S:=fun _=>True) (by kernel_rfl) trivial (fun hS=>?_);have hBd:Below w.heap.size w w.drew:=(Below.refl _ w).drew;generalize w.drew=wn at *;obtain ⟨ro,hrb,hrc⟩:=Gy (w:=W0) (b:=b) (o:=o) (k:=k+1) (cap:=cap) (len:=xs.length) (n:=6) (cs:=cs) HC1 hcap (by omega) HC2;have HRC:=iH hrc;clear hrc;refine tz 0 5 (.slice (some ⟨b,o,none⟩) xs.length cap) rfl hS ?_;simp only [pX];refine tz 1 6 (.int .i64 k) rfl hS ?_;simp only [pX];refine x3 2 7 (.slice (some ⟨b,o,none⟩) k cap) rfl hS ?_;simp only [pX];refine tz 3 8 (.slice (some ⟨b,o,none⟩) xs.length cap) rfl hS ?_;simp only [pX];refine tz 4 9 (.int .i64 k) rfl hS ?_;simp only [pX];refine ty 5 ⟨some 10,_,_,_,_,none⟩ (.int .i64 ((k+1:Nat):Int)) rfl (by rfl) ?_ hS ?_
 ·intro wy hy
  clear hy
  first | (go_simp;done) | (go_simp;rw [IntKind.wrap_i64];omega) | (go_simp;omega)
 simp only [pX];refine ty 6 ⟨some 11,_,_,_,_,none⟩ (.slice (some ⟨b,ro,none⟩) (xs.length - (k+1)) (cap - (k+1))) rfl (by rfl) ?_ hS ?_
 ·intro wy hy
  clear hy
  (rw [← hrb];go_simp;try omega)
 simp only [pX];clear hrb;refine rd1 7 ⟨some 12,_,_,_,_,none⟩ rfl (fun K hK=>?_);go_simp;have hal:=(Below.refl _ wn).alloc nL (Obj.cells #[.slice (some ⟨b,o,none⟩) k cap,.slice (some ⟨b,ro,none⟩) (xs.length - (k+1)) (cap - (k+1))] 37);have PB:=iH (Blk.alloc wn #[.slice (some ⟨b,o,none⟩) k cap,.slice (some ⟨b,ro,none⟩) (xs.length - (k+1)) (cap - (k+1))] 37);have hBf:=qt hBd hal;refine hK.out _ _ trivial (fun hS=>?_);clear hK K hal hBd;generalize wn.heap.size=gP at *;generalize wn.alloc (Obj.cells #[.slice (some ⟨b,o,none⟩) k cap,.slice (some ⟨b,ro,none⟩) (xs.length - (k+1)) (cap - (k+1))] 37)=wq at *;have HPS:Hid (∀ j y,([⟨some ⟨b,o,none⟩,k,cap,cs.take (k*6)⟩,⟨some ⟨b,ro,none⟩,xs.length - (k+1),cap - (k+1),cs.drop ((k+1)*6)⟩]:List Iz)[j]?=some y→PartOk 6 wq y∧wq.cell? ⟨gP,j,none⟩=some (.slice y.ad y.len y.cap)):=by
  intro t y hy;have hk3:t<2:=Ae hy;have hc:t=0∨t=1:=by omega
  rcases hc with rfl | rfl
  ·cases hy
   refine ⟨⟨fun h=>(by cases h),?_,fun ad e j u hj=>?_,fun u hu=>HC3.out u (List.mem_of_mem_take hu)⟩,PB.out.cell rfl⟩
   ·show (cs.take (k*6)).length=k*6
    rw [List.length_take,HC1.out];have h9:=Nat.mul_le_mul_right 6 (lE hk);omega
   ·cases e
    have hj2:cs[j]?=some u:=by
     have h9:=Ae hj;simp only [List.length_take] at h9
     rwa [List.getElem?_take_of_lt (by omega)] at hj
    exact ((qt hB0 hBf).cell (p:=(⟨b,o,none⟩:Addr).add j) (block_lt_of_cell (HC2 j u hj2))).trans (HC2 j u hj2)
  ·cases hy
   refine ⟨⟨fun h=>(by cases h),?_,fun ad e j u hj=>?_,fun u hu=>HC3.out u (List.mem_of_mem_drop hu)⟩,PB.out.cell rfl⟩
   ·show (cs.drop ((k+1)*6)).length=(xs.length - (k+1))*6
    rw [List.length_drop,HC1.out,Nat.sub_mul]
   ·cases e
    have h9:=HRC.out j u hj;exact ((qt hB0 hBf).cell (p:=(⟨b,ro,none⟩:Addr).add j) (block_lt_of_cell h9)).trans h9
 have HLN:Hid (Ee [⟨some ⟨b,o,none⟩,k,cap,cs.take (k*6)⟩,⟨some ⟨b,ro,none⟩,xs.length - (k+1),cap - (k+1),cs.drop ((k+1)*6)⟩]=k+(xs.length - (k+1))):=by show _=_;simp [Ee]
 refine rd1 8 ⟨some 13,_,_,_,_,none⟩ rfl (fun K hK=>?_);go_simp;refine (Kx [⟨some ⟨b,o,none⟩,k,cap,cs.take (k*6)⟩,⟨some ⟨b,ro,none⟩,xs.length - (k+1),cap - (k+1),cs.drop ((k+1)*6)⟩] gP 2 _ rfl (by omega) HPS PB.out.lt (by have h9:=HLN.out;omega)).mono ?_;rintro e wr ⟨v,rfl,hO,hbe⟩;refine hK.out _ _ trivial (fun hS=>?_);clear hK K;have hBg:=qt hBf hbe;have hpl:(xs.take k++xs.drop (k+1)).length=k+(xs.length - (k+1)):=by
  rw [List.length_append,List.length_take,List.length_drop];omega
 have hOO:wr.ownsRow w.heap.size 45 6 v (xs.take k++xs.drop (k+1)).length (Ca [⟨some ⟨b,o,none⟩,k,cap,cs.take (k*6)⟩,⟨some ⟨b,ro,none⟩,xs.length - (k+1),cap - (k+1),cs.drop ((k+1)*6)⟩]):=by rw [hpl,← HLN.out];exact Ct hO hBf.size
 have hEE:EAt vBr Brt.marks StrC 1 6 lo W0 (Ca [⟨some ⟨b,o,none⟩,k,cap,cs.take (k*6)⟩,⟨some ⟨b,ro,none⟩,xs.length - (k+1),cap - (k+1),cs.drop ((k+1)*6)⟩]) (xs.take k++xs.drop (k+1)):=by
  have e1:=(HC4.out.take Bk k);have e3:=(HC4.out.drop (k+1));have e4:=e1.app Bk (by rw [List.length_take,List.length_take,HC1.out,Nat.min_eq_left (lE hk),Nat.min_eq_left (Nat.mul_le_mul_right 6 (lE hk))]) e3;simpa [Ca] using e4
 have HOO:=iH hOO;have HEE:=iH hEE;clear hO hOO hEE hpl HPS PB HLN hbe hBf HRC;refine tz 9 4 v rfl hS ?_;simp only [pX];refine td ?_;clear hS;go_wp2_with fail;go_ret;exact ⟨_,_,rfl,HOO,HEE,hBg⟩
theorem Hg {base lo:Nat} {w:World} {v:Value} {l:List Cpy} {cs:List Value} (h1:w.ownsRow base 48 12 v l.length cs) (hlo:lo≤base) (h2:EAt vCp Cpy.likes LikC 2 12 lo w cs l) (hz:SzC l) (hm:l.length≤maxLen):∃ a q,v=.slice a l.length q∧SliceC CpyC 12 lo w a l :=
 Se h1 hlo h2 Be hm (fun _ y ae ce hy hf hs=>⟨ae,ce,hf 0 _ rfl,hf 1 _ rfl,hf 2 _ rfl,hf 3 _ rfl,hf 4 _ rfl,hf 5 _ rfl,hf 6 _ rfl,hf 7 _ rfl,hf 8 _ rfl,hf 9 _ rfl,hf 10 _ rfl,hf 11 _ rfl,(hz y hy).1,(hz y hy).2.1,(hz y hy).2.2.1,(hz y hy).2.2.2.1,(hz y hy).2.2.2.2.1,(hz y hy).2.2.2.2.2,hs⟩)
theorem Ky (xs:List Cpy) (x:Cpy) (b o:Nat) (ax:OA) (cap cx lo:Nat) (W0 w:World) (hB0:Below W0.heap.size W0 w) (hin:SliceC CpyC 12 lo W0 (some ⟨b,o,none⟩) xs) (hx:SliceC LikC 2 lo W0 ax x.likes) (hsm:xs.length≤100) (hcap:xs.length≤cap) (hcap9:cap≤maxLen) (hmono:∀ (j k:Nat) u v,j≤k→xs[j]?=some u→xs[k]?=some v→Lib.compareBytes v.name.data.toList x.name.data.toList<0→Lib.compareBytes u.name.data.toList x.name.data.toList<0) :
  Calls Tryz.prog 123 #[.slice (some ⟨b,o,none⟩) xs.length cap,.agg (ccA x ax cx),.func (.func 90) #[] #[]] w fun e w'=>∃ vv ds,e=.returned vv∧w'.ownsRow w.heap.size 48 12 vv (Aq Cpy.name xs x).length ds∧EAt vCp Cpy.likes LikC 2 12 lo W0 ds (Aq Cpy.name xs x)∧Below w.heap.size w w':=by
 obtain ⟨cs,hc1,hc2,hc3,hc4⟩:=Hr hin;have HC1:=iH hc1;have HC2:=iH hc2;have HC3:=iH hc3;have HC4:Hid (EAt vCp Cpy.likes LikC 2 12 lo W0 cs xs):=hc4;have HI:=iH hin;have HX:=iH hx;have HM:=iH hmono;have HCP:=iH hcap;unfold maxLen at hcap9;clear hc1 hc2 hc3 hc4 hin hx hmono;have h1:=Blk.alloc w (ccA x ax cx) 48;have HK2:=iH (h1.below ((Below.refl _ _).alloc nL (Obj.cells #[.func (.func 90) #[] #[]] 134)) h1.lt);have HN2:=al2 w (ccA x ax cx) 48 #[.func (.func 90) #[] #[]] 134;have hB2:=bl2 w (ccA x ax cx) 48 #[.func (.func 90) #[] #[]] 134;clear h1;go_enter Tryz.func123,Tryz.ntmps123;go_upto_region 2 with fail;generalize ((w.alloc (Obj.cells (ccA x ax cx) 48)).alloc (Obj.cells #[.func (.func 90) #[] #[]] 134))=w2 at *;have kn:w2.cell? ⟨w.heap.size+1,0,none⟩=some (.func (.func 90) #[] #[]):=HN2.out.cell rfl;go_wp2_with (refine lk Exq HK2 ?_);refine (Df x ax cx _).mono ?_;rintro e w3 ⟨rfl,hb3⟩;have HK3:=qb HK2 hb3;have HN3:=qb HN2 hb3;have hB3:=qt hB2 hb3;clear hb3 hB2 HK2 HN2 kn;go_wp2_with fail;refine (cZ xs x.name _ cap lo (w.heap.size+1) _ (HI.out.below CpyC.holds (qt hB0 hB3) nL) (by omega) (HN3.out.cell rfl) HM).mono ?_;rintro e w4 ⟨i,q,rfl,hi,h1,h2,hq,hb4⟩;have HPE:=iH (fI (nm:=Cpy.name) (a:=x) hi h1 h2 hq);have HK4:=qb HK3 hb4;have hB4:=qt hB3 hb4;have HQI:Hid (q=true→i<xs.length):=fun h=>by
  obtain ⟨y,h9,_⟩:=hq.1 h;exact Ae h9
 clear h1 h2 hq hb4 hB3 HK3 HN3 HM HI
 cases q with
 | true =>
  have hil:=HQI.out rfl;rw [if_pos rfl] at HPE;clear HQI;go_upto_region 6 with fail;obtain ⟨r,hr⟩:∃ r:Nat,r=i+1:=⟨_,rfl⟩;have hri:((i:Int)+1)=(r:Int):=by omega
  try rw [hri]
  rw [← hr] at HPE;have hrl:r≤xs.length:=by omega
  clear hri hr;refine wp_region_held_drew (S:=fun wy=>Blk w.heap.size (ccA x ax cx) 48 wy) (by kernel_rfl) HK4.out.drew (fun hS=>?_);have hBd:=hB4.drew;clear HK4 hB4;generalize w4.drew=wn at *;obtain ⟨ro,hrb,hrc⟩:=Gy (w:=W0) (b:=b) (o:=o) (k:=r) (cap:=cap) (len:=xs.length) (n:=12) (cs:=cs) HC1 hcap hrl HC2;have HRC:=iH hrc;clear hrc;refine tz 0 25 (.slice (some ⟨b,o,none⟩) xs.length cap) rfl hS ?_;simp only [pX];refine tz 1 26 (.int .i64 i) rfl hS ?_;simp only [pX];refine x3 2 27 (.slice (some ⟨b,o,none⟩) i cap) rfl hS ?_;simp only [pX];refine tm 3 28 w.heap.size 0 (ccL x ax cx) rfl (fun _ h=>h.rangeA) Tryz.underlying48 Bh hS ?_;simp only [pX];refine tz 5 30 (.slice (some ⟨b,o,none⟩) xs.length cap) rfl hS ?_;simp only [pX];refine tz 6 31 (.int .i64 r) rfl hS ?_;simp only [pX];refine ty 7 ⟨some 32,_,_,_,_,none⟩ (.slice (some ⟨b,ro,none⟩) (xs.length - r) (cap - r)) rfl (by rfl) ?_ hS ?_
  ·intro wy hy
   clear hy
   (rw [← hrb];go_simp;try omega)
  simp only [pX];clear hrb;refine rd1 4 ⟨some 29,_,_,_,_,none⟩ rfl (fun K hK=>?_);go_simp;have hal:=(Below.refl _ wn).alloc nL (Obj.cells (ccA x ax cx) 48);have NC:=iH (Blk.alloc wn (ccA x ax cx) 48);have hBe:=qt hBd hal;refine hK.out _ _ (hS.below hal hS.lt) (fun hS=>?_);clear hK K hal hBd;generalize wn.heap.size=gN at *;generalize wn.alloc (Obj.cells (ccA x ax cx) 48)=wo at *;refine rd1 8 ⟨some 33,_,_,_,_,none⟩ rfl (fun K hK=>?_);go_simp;have hal:=(Below.refl _ wo).alloc nL (Obj.cells #[.slice (some ⟨b,o,none⟩) i cap,.slice (some ⟨gN,0,none⟩) 1 1,.slice (some ⟨b,ro,none⟩) (xs.length - r) (cap - r)] 39);have PB:=iH (Blk.alloc wo #[.slice (some ⟨b,o,none⟩) i cap,.slice (some ⟨gN,0,none⟩) 1 1,.slice (some ⟨b,ro,none⟩) (xs.length - r) (cap - r)] 39);have hBf:=qt hBe hal;have NC2:=qb NC hal;refine hK.out _ _ (hS.below hal hS.lt) (fun hS=>?_);clear hK K hal hBe NC;generalize wo.heap.size=gP at *;generalize wo.alloc (Obj.cells #[.slice (some ⟨b,o,none⟩) i cap,.slice (some ⟨gN,0,none⟩) 1 1,.slice (some ⟨b,ro,none⟩) (xs.length - r) (cap - r)] 39)=wq at *;have HPS:Hid (∀ k y,([⟨some ⟨b,o,none⟩,i,cap,cs.take (i*12)⟩,⟨some ⟨gN,0,none⟩,1,1,vCp x (.slice ax x.likes.length cx)⟩,⟨some ⟨b,ro,none⟩,xs.length - r,cap - r,cs.drop (r*12)⟩]:List Iz)[k]?=some y→PartOk 12 wq y∧wq.cell? ⟨gP,k,none⟩=some (.slice y.ad y.len y.cap)):=by
   intro k y hy;have hk3:k<3:=Ae hy;have hc:k=0∨k=1∨k=2:=by omega
   rcases hc with rfl | rfl | rfl
   ·cases hy
    refine ⟨⟨fun h=>(by cases h),?_,fun ad e j u hj=>?_,fun u hu=>HC3.out u (List.mem_of_mem_take hu)⟩,PB.out.cell rfl⟩
    ·show (cs.take (i*12)).length=i*12
     rw [List.length_take,HC1.out];have h9:=Nat.mul_le_mul_right 12 hi;omega
    ·cases e
     have hj2:cs[j]?=some u:=by
      have h9:=Ae hj;simp only [List.length_take] at h9
      rwa [List.getElem?_take_of_lt (by omega)] at hj
     exact ((qt hB0 hBf).cell (p:=(⟨b,o,none⟩:Addr).add j) (block_lt_of_cell (HC2 j u hj2))).trans (HC2 j u hj2)
   ·cases hy
    refine ⟨⟨fun h=>(by cases h),by rfl,fun ad e j u hj=>?_,Ib x ax _ cx⟩,PB.out.cell rfl⟩;cases e
    rw [Addr.add_mid];exact NC2.out.rangeA j u hj
   ·cases hy
    refine ⟨⟨fun h=>(by cases h),?_,fun ad e j u hj=>?_,fun u hu=>HC3.out u (List.mem_of_mem_drop hu)⟩,PB.out.cell rfl⟩
    ·show (cs.drop (r*12)).length=(xs.length - r)*12
     rw [List.length_drop,HC1.out,Nat.sub_mul]
    ·cases e
     have h9:=HRC.out j u hj;exact ((qt hB0 hBf).cell (p:=(⟨b,ro,none⟩:Addr).add j) (block_lt_of_cell h9)).trans h9
  have HLN:Hid (Ee [⟨some ⟨b,o,none⟩,i,cap,cs.take (i*12)⟩,⟨some ⟨gN,0,none⟩,1,1,vCp x (.slice ax x.likes.length cx)⟩,⟨some ⟨b,ro,none⟩,xs.length - r,cap - r,cs.drop (r*12)⟩]=i+1+(xs.length - r)):=by show _=_;simp [Ee];omega
  refine rd1 9 ⟨some 34,_,_,_,_,none⟩ rfl (fun K hK=>?_);go_simp;refine (Kt [⟨some ⟨b,o,none⟩,i,cap,cs.take (i*12)⟩,⟨some ⟨gN,0,none⟩,1,1,vCp x (.slice ax x.likes.length cx)⟩,⟨some ⟨b,ro,none⟩,xs.length - r,cap - r,cs.drop (r*12)⟩] gP 3 _ rfl (by omega) HPS PB.out.lt (by have h9:=HLN.out;omega)).mono ?_;rintro e wr ⟨v,rfl,hO,hbe⟩;refine hK.out _ _ (hS.below hbe hS.lt) (fun hS=>?_);clear hK K;have hBg:=qt hBf hbe;have hpl:(Aq Cpy.name xs x).length=i+1+(xs.length - r):=by
   rw [HPE.out,List.length_append,List.length_take,List.length_cons,List.length_drop];omega
  have hOO:wr.ownsRow w.heap.size 48 12 v (Aq Cpy.name xs x).length (Ca [⟨some ⟨b,o,none⟩,i,cap,cs.take (i*12)⟩,⟨some ⟨gN,0,none⟩,1,1,vCp x (.slice ax x.likes.length cx)⟩,⟨some ⟨b,ro,none⟩,xs.length - r,cap - r,cs.drop (r*12)⟩]):=by rw [hpl,← HLN.out];exact Ct hO hBf.size
  have hEE:EAt vCp Cpy.likes LikC 2 12 lo W0 (Ca [⟨some ⟨b,o,none⟩,i,cap,cs.take (i*12)⟩,⟨some ⟨gN,0,none⟩,1,1,vCp x (.slice ax x.likes.length cx)⟩,⟨some ⟨b,ro,none⟩,xs.length - r,cap - r,cs.drop (r*12)⟩]) (Aq Cpy.name xs x):=by
   rw [HPE.out];have e1:=(HC4.out.take Be i);have e2:=(EAt.one (V:=vCp) (n:=12) (ce:=cx) HX);have e3:=(HC4.out.drop r);have e4:=e1.app Be (by rw [List.length_take,List.length_take,HC1.out,Nat.min_eq_left hi,Nat.min_eq_left (Nat.mul_le_mul_right 12 hi)]) (e2.app Be (by rw [Be];rfl) e3);simpa [Ca] using e4
  have HOO:=iH hOO;have HEE:=iH hEE;clear hO hOO hEE hpl HPS PB NC2 HLN hbe hBf HRC;refine tz 10 6 v rfl hS ?_;simp only [pX];refine td ?_;clear hS;go_wp2_with fail;go_ret;exact ⟨_,_,rfl,HOO,HEE,hBg⟩
 | false =>
  rw [if_neg (by simp)] at HPE;clear HQI;go_upto_region 6 with fail;have hrl:i≤xs.length:=hi;refine wp_region_held_drew (S:=fun wy=>Blk w.heap.size (ccA x ax cx) 48 wy) (by kernel_rfl) HK4.out.drew (fun hS=>?_);have hBd:=hB4.drew;clear HK4 hB4;generalize w4.drew=wn at *;obtain ⟨ro,hrb,hrc⟩:=Gy (w:=W0) (b:=b) (o:=o) (k:=i) (cap:=cap) (len:=xs.length) (n:=12) (cs:=cs) HC1 hcap hrl HC2;have HRC:=iH hrc;clear hrc;refine tz 0 25 (.slice (some ⟨b,o,none⟩) xs.length cap) rfl hS ?_;simp only [pX];refine tz 1 26 (.int .i64 i) rfl hS ?_;simp only [pX];refine x3 2 27 (.slice (some ⟨b,o,none⟩) i cap) rfl hS ?_;simp only [pX];refine tm 3 28 w.heap.size 0 (ccL x ax cx) rfl (fun _ h=>h.rangeA) Tryz.underlying48 Bh hS ?_;simp only [pX];refine tz 5 30 (.slice (some ⟨b,o,none⟩) xs.length cap) rfl hS ?_;simp only [pX];refine tz 6 31 (.int .i64 i) rfl hS ?_;simp only [pX];refine ty 7 ⟨some 32,_,_,_,_,none⟩ (.slice (some ⟨b,ro,none⟩) (xs.length - i) (cap - i)) rfl (by rfl) ?_ hS ?_
  ·intro wy hy
   clear hy
   (rw [← hrb];go_simp;try omega)
  simp only [pX];clear hrb;refine rd1 4 ⟨some 29,_,_,_,_,none⟩ rfl (fun K hK=>?_);go_simp;have hal:=(Below.refl _ wn).alloc nL (Obj.cells (ccA x ax cx) 48);have NC:=iH (Blk.alloc wn (ccA x ax cx) 48);have hBe:=qt hBd hal;refine hK.out _ _ (hS.below hal hS.lt) (fun hS=>?_);clear hK K hal hBd;generalize wn.heap.size=gN at *;generalize wn.alloc (Obj.cells (ccA x ax cx) 48)=wo at *;refine rd1 8 ⟨some 33,_,_,_,_,none⟩ rfl (fun K hK=>?_);go_simp;have hal:=(Below.refl _ wo).alloc nL (Obj.cells #[.slice (some ⟨b,o,none⟩) i cap,.slice (some ⟨gN,0,none⟩) 1 1,.slice (some ⟨b,ro,none⟩) (xs.length - i) (cap - i)] 39);have PB:=iH (Blk.alloc wo #[.slice (some ⟨b,o,none⟩) i cap,.slice (some ⟨gN,0,none⟩) 1 1,.slice (some ⟨b,ro,none⟩) (xs.length - i) (cap - i)] 39);have hBf:=qt hBe hal;have NC2:=qb NC hal;refine hK.out _ _ (hS.below hal hS.lt) (fun hS=>?_);clear hK K hal hBe NC;generalize wo.heap.size=gP at *;generalize wo.alloc (Obj.cells #[.slice (some ⟨b,o,none⟩) i cap,.slice (some ⟨gN,0,none⟩) 1 1,.slice (some ⟨b,ro,none⟩) (xs.length - i) (cap - i)] 39)=wq at *;have HPS:Hid (∀ k y,([⟨some ⟨b,o,none⟩,i,cap,cs.take (i*12)⟩,⟨some ⟨gN,0,none⟩,1,1,vCp x (.slice ax x.likes.length cx)⟩,⟨some ⟨b,ro,none⟩,xs.length - i,cap - i,cs.drop (i*12)⟩]:List Iz)[k]?=some y→PartOk 12 wq y∧wq.cell? ⟨gP,k,none⟩=some (.slice y.ad y.len y.cap)):=by
   intro k y hy;have hk3:k<3:=Ae hy;have hc:k=0∨k=1∨k=2:=by omega
   rcases hc with rfl | rfl | rfl
   ·cases hy
    refine ⟨⟨fun h=>(by cases h),?_,fun ad e j u hj=>?_,fun u hu=>HC3.out u (List.mem_of_mem_take hu)⟩,PB.out.cell rfl⟩
    ·show (cs.take (i*12)).length=i*12
     rw [List.length_take,HC1.out];have h9:=Nat.mul_le_mul_right 12 hi;omega
    ·cases e
     have hj2:cs[j]?=some u:=by
      have h9:=Ae hj;simp only [List.length_take] at h9
      rwa [List.getElem?_take_of_lt (by omega)] at hj
     exact ((qt hB0 hBf).cell (p:=(⟨b,o,none⟩:Addr).add j) (block_lt_of_cell (HC2 j u hj2))).trans (HC2 j u hj2)
   ·cases hy
    refine ⟨⟨fun h=>(by cases h),by rfl,fun ad e j u hj=>?_,Ib x ax _ cx⟩,PB.out.cell rfl⟩;cases e
    rw [Addr.add_mid];exact NC2.out.rangeA j u hj
   ·cases hy
    refine ⟨⟨fun h=>(by cases h),?_,fun ad e j u hj=>?_,fun u hu=>HC3.out u (List.mem_of_mem_drop hu)⟩,PB.out.cell rfl⟩
    ·show (cs.drop (i*12)).length=(xs.length - i)*12
     rw [List.length_drop,HC1.out,Nat.sub_mul]
    ·cases e
     have h9:=HRC.out j u hj;exact ((qt hB0 hBf).cell (p:=(⟨b,ro,none⟩:Addr).add j) (block_lt_of_cell h9)).trans h9
  have HLN:Hid (Ee [⟨some ⟨b,o,none⟩,i,cap,cs.take (i*12)⟩,⟨some ⟨gN,0,none⟩,1,1,vCp x (.slice ax x.likes.length cx)⟩,⟨some ⟨b,ro,none⟩,xs.length - i,cap - i,cs.drop (i*12)⟩]=i+1+(xs.length - i)):=by show _=_;simp [Ee];omega
  refine rd1 9 ⟨some 34,_,_,_,_,none⟩ rfl (fun K hK=>?_);go_simp;refine (Kt [⟨some ⟨b,o,none⟩,i,cap,cs.take (i*12)⟩,⟨some ⟨gN,0,none⟩,1,1,vCp x (.slice ax x.likes.length cx)⟩,⟨some ⟨b,ro,none⟩,xs.length - i,cap - i,cs.drop (i*12)⟩] gP 3 _ rfl (by omega) HPS PB.out.lt (by have h9:=HLN.out;omega)).mono ?_;rintro e wr ⟨v,rfl,hO,hbe⟩;refine hK.out _ _ (hS.below hbe hS.lt) (fun hS=>?_);clear hK K;have hBg:=qt hBf hbe;have hpl:(Aq Cpy.name xs x).length=i+1+(xs.length - i):=by
   rw [HPE.out,List.length_append,List.length_take,List.length_cons,List.length_drop];omega
  have hOO:wr.ownsRow w.heap.size 48 12 v (Aq Cpy.name xs x).length (Ca [⟨some ⟨b,o,none⟩,i,cap,cs.take (i*12)⟩,⟨some ⟨gN,0,none⟩,1,1,vCp x (.slice ax x.likes.length cx)⟩,⟨some ⟨b,ro,none⟩,xs.length - i,cap - i,cs.drop (i*12)⟩]):=by rw [hpl,← HLN.out];exact Ct hO hBf.size
  have hEE:EAt vCp Cpy.likes LikC 2 12 lo W0 (Ca [⟨some ⟨b,o,none⟩,i,cap,cs.take (i*12)⟩,⟨some ⟨gN,0,none⟩,1,1,vCp x (.slice ax x.likes.length cx)⟩,⟨some ⟨b,ro,none⟩,xs.length - i,cap - i,cs.drop (i*12)⟩]) (Aq Cpy.name xs x):=by
   rw [HPE.out];have e1:=(HC4.out.take Be i);have e2:=(EAt.one (V:=vCp) (n:=12) (ce:=cx) HX);have e3:=(HC4.out.drop i);have e4:=e1.app Be (by rw [List.length_take,List.length_take,HC1.out,Nat.min_eq_left hi,Nat.min_eq_left (Nat.mul_le_mul_right 12 hi)]) (e2.app Be (by rw [Be];rfl) e3);simpa [Ca] using e4
  have HOO:=iH hOO;have HEE:=iH hEE;clear hO hOO hEE hpl HPS PB NC2 HLN hbe hBf HRC;refine tz 10 6 v rfl hS ?_;simp only [pX];refine td ?_;clear hS;go_wp2_with fail;go_ret;exact ⟨_,_,rfl,HOO,HEE,hBg⟩
theorem aX (xs:List Cpy) (b o k:Nat) (cap lo:Nat) (W0 w:World) (hB0:Below W0.heap.size W0 w) (hin:SliceC CpyC 12 lo W0 (some ⟨b,o,none⟩) xs) (hsm:xs.length≤100) (hcap:xs.length≤cap) (hcap9:cap≤maxLen) (hk:k<xs.length) :
  Calls Tryz.prog 124 #[.slice (some ⟨b,o,none⟩) xs.length cap,.int .i64 k] w fun e w'=>∃ vv ds,e=.returned vv∧w'.ownsRow w.heap.size 48 12 vv (xs.take k++xs.drop (k+1)).length ds∧EAt vCp Cpy.likes LikC 2 12 lo W0 ds (xs.take k++xs.drop (k+1))∧Below w.heap.size w w':=by
 obtain ⟨cs,hc1,hc2,hc3,hc4⟩:=Hr hin;have HC1:=iH hc1;have HC2:=iH hc2;have HC3:=iH hc3;have HC4:Hid (EAt vCp Cpy.likes LikC 2 12 lo W0 cs xs):=hc4;unfold maxLen at hcap9;clear hc1 hc2 hc3 hc4 hin;go_enter Tryz.func124,Tryz.ntmps124;go_upto_region 1 with fail;refine wp_region_held_drew (S:=fun _=>True) (by kernel_rfl) trivial (fun hS=>?_);have hBd:Below w.heap.size w w.drew:=(Below.refl _ w).drew;generalize w.drew=wn at *;obtain ⟨ro,hrb,hrc⟩:=Gy (w:=W0) (b:=b) (o:=o) (k:=k+1) (cap:=cap) (len:=xs.length) (n:=12) (cs:=cs) HC1 hcap (by omega) HC2;have HRC:=iH hrc;clear hrc;refine tz 0 5 (.slice (some ⟨b,o,none⟩) xs.length cap) rfl hS ?_;simp only [pX];refine tz 1 6 (.int .i64 k) rfl hS ?_;simp only [pX];refine x3 2 7 (.slice (some ⟨b,o,none⟩) k cap) rfl hS ?_;simp only [pX];refine tz 3 8 (.slice (some ⟨b,o,none⟩) xs.length cap) rfl hS ?_;simp only [pX];refine tz 4 9 (.int .i64 k) rfl hS ?_;simp only [pX];refine ty 5 ⟨some 10,_,_,_,_,none⟩ (.int .i64 ((k+1:Nat):Int)) rfl (by rfl) ?_ hS ?_
 ·intro wy hy
  clear hy
  first | (go_simp;done) | (go_simp;rw [IntKind.wrap_i64];omega) | (go_simp;omega)
 simp only [pX];refine ty 6 ⟨some 11,_,_,_,_,none⟩ (.slice (some ⟨b,ro,none⟩) (xs.length - (k+1)) (cap - (k+1))) rfl (by rfl) ?_ hS ?_
 ·intro wy hy
  clear hy
  (rw [← hrb];go_simp;try omega)
 simp only [pX];clear hrb;refine rd1 7 ⟨some 12,_,_,_,_,none⟩ rfl (fun K hK=>?_);go_simp;have hal:=(Below.refl _ wn).alloc nL (Obj.cells #[.slice (some ⟨b,o,none⟩) k cap,.slice (some ⟨b,ro,none⟩) (xs.length - (k+1)) (cap - (k+1))] 39);have PB:=iH (Blk.alloc wn #[.slice (some ⟨b,o,none⟩) k cap,.slice (some ⟨b,ro,none⟩) (xs.length - (k+1)) (cap - (k+1))] 39);have hBf:=qt hBd hal;refine hK.out _ _ trivial (fun hS=>?_);clear hK K hal hBd;generalize wn.heap.size=gP at *;generalize wn.alloc (Obj.cells #[.slice (some ⟨b,o,none⟩) k cap,.slice (some ⟨b,ro,none⟩) (xs.length - (k+1)) (cap - (k+1))] 39)=wq at *;have HPS:Hid (∀ j y,([⟨some ⟨b,o,none⟩,k,cap,cs.take (k*12)⟩,⟨some ⟨b,ro,none⟩,xs.length - (k+1),cap - (k+1),cs.drop ((k+1)*12)⟩]:List Iz)[j]?=some y→PartOk 12 wq y∧wq.cell? ⟨gP,j,none⟩=some (.slice y.ad y.len y.cap)):=by
  intro t y hy;have hk3:t<2:=Ae hy;have hc:t=0∨t=1:=by omega
  rcases hc with rfl | rfl
  ·cases hy
   refine ⟨⟨fun h=>(by cases h),?_,fun ad e j u hj=>?_,fun u hu=>HC3.out u (List.mem_of_mem_take hu)⟩,PB.out.cell rfl⟩
   ·show (cs.take (k*12)).length=k*12
    rw [List.length_take,HC1.out];have h9:=Nat.mul_le_mul_right 12 (lE hk);omega
   ·cases e
    have hj2:cs[j]?=some u:=by
     have h9:=Ae hj;simp only [List.length_take] at h9
     rwa [List.getElem?_take_of_lt (by omega)] at hj
    exact ((qt hB0 hBf).cell (p:=(⟨b,o,none⟩:Addr).add j) (block_lt_of_cell (HC2 j u hj2))).trans (HC2 j u hj2)
  ·cases hy
   refine ⟨⟨fun h=>(by cases h),?_,fun ad e j u hj=>?_,fun u hu=>HC3.out u (List.mem_of_mem_drop hu)⟩,PB.out.cell rfl⟩
   ·show (cs.drop ((k+1)*12)).length=(xs.length - (k+1))*12
    rw [List.length_drop,HC1.out,Nat.sub_mul]
   ·cases e
    have h9:=HRC.out j u hj;exact ((qt hB0 hBf).cell (p:=(⟨b,ro,none⟩:Addr).add j) (block_lt_of_cell h9)).trans h9
 have HLN:Hid (Ee [⟨some ⟨b,o,none⟩,k,cap,cs.take (k*12)⟩,⟨some ⟨b,ro,none⟩,xs.length - (k+1),cap - (k+1),cs.drop ((k+1)*12)⟩]=k+(xs.length - (k+1))):=by show _=_;simp [Ee]
 refine rd1 8 ⟨some 13,_,_,_,_,none⟩ rfl (fun K hK=>?_);go_simp;refine (Kt [⟨some ⟨b,o,none⟩,k,cap,cs.take (k*12)⟩,⟨some ⟨b,ro,none⟩,xs.length - (k+1),cap - (k+1),cs.drop ((k+1)*12)⟩] gP 2 _ rfl (by omega) HPS PB.out.lt (by have h9:=HLN.out;omega)).mono ?_;rintro e wr ⟨v,rfl,hO,hbe⟩;refine hK.out _ _ trivial (fun hS=>?_);clear hK K;have hBg:=qt hBf hbe;have hpl:(xs.take k++xs.drop (k+1)).length=k+(xs.length - (k+1)):=by
  rw [List.length_append,List.length_take,List.length_drop];omega
 have hOO:wr.ownsRow w.heap.size 48 12 v (xs.take k++xs.drop (k+1)).length (Ca [⟨some ⟨b,o,none⟩,k,cap,cs.take (k*12)⟩,⟨some ⟨b,ro,none⟩,xs.length - (k+1),cap - (k+1),cs.drop ((k+1)*12)⟩]):=by rw [hpl,← HLN.out];exact Ct hO hBf.size
 have hEE:EAt vCp Cpy.likes LikC 2 12 lo W0 (Ca [⟨some ⟨b,o,none⟩,k,cap,cs.take (k*12)⟩,⟨some ⟨b,ro,none⟩,xs.length - (k+1),cap - (k+1),cs.drop ((k+1)*12)⟩]) (xs.take k++xs.drop (k+1)):=by
  have e1:=(HC4.out.take Be k);have e3:=(HC4.out.drop (k+1));have e4:=e1.app Be (by rw [List.length_take,List.length_take,HC1.out,Nat.min_eq_left (lE hk),Nat.min_eq_left (Nat.mul_le_mul_right 12 (lE hk))]) e3;simpa [Ca] using e4
 have HOO:=iH hOO;have HEE:=iH hEE;clear hO hOO hEE hpl HPS PB HLN hbe hBf HRC;refine tz 9 4 v rfl hS ?_;simp only [pX];refine td ?_;clear hS;go_wp2_with fail;go_ret;exact ⟨_,_,rfl,HOO,HEE,hBg⟩
end Go.Proofs.YtihnjndnkgnmaaaGreat
