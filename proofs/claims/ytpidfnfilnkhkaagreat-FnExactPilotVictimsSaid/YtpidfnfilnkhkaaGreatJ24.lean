import Derived.Test.YtpidfnfilnkhkaaGreatJ23
set_option maxHeartbeats 8000000
set_option maxRecDepth 100000
namespace Go.Proofs.YtpidfnfilnkhkaaGreat
open Go.RowKit Tryz
theorem iM(ns:List P.Nd)(out:List (List Nat))(n cn co go g:Nat)(ms:List BA)(am:OA)(cm:Nat)(k a:Nat)(t:P.Tr)(nd:P.Nd)(hol:out.length=n)(hnd:ns[k]?=some nd)(hk:nd.kind=3)(hout:out[k]?=some [a])(ih:Ge ns out n cn co go g ms am cm a t):Ge ns out n cn co go g ms am cm k (P.ntT t):=by
 intro w hN hK hM;have hkl:=P.getElem?_lt hnd;have hlt:=hN.1;have hml:ms.length<=maxLen:=hM.1;unfold maxLen at hml;have hNN:=iH hN;have hKK:=iH hK;have hMM:=iH hM;have q0:∀o1,(w.alloc o1).cell? ⟨g,k*4,none⟩=some (.int .i64 3):=λo1=>((Em ((Below.refl w.heap.size w).alloc nL o1)).1 _ _ hlt).trans (by rw[<-hk];exact(hN.2 k nd hnd).1)
 have q1:∀o1,(w.alloc o1).cell? ⟨g,k*4+1,none⟩=some (.string nd.name):=λo1=>((Em ((Below.refl w.heap.size w).alloc nL o1)).1 _ _ hlt).trans (hN.2 k nd hnd).2.1
 have q2:∀o1,(w.alloc o1).cell? ⟨g,k*4+2,none⟩=some (.string nd.value):=λo1=>((Em ((Below.refl w.heap.size w).alloc nL o1)).1 _ _ hlt).trans (hN.2 k nd hnd).2.2.1
 have q3:∀o1,(w.alloc o1).cell? ⟨g,k*4+3,none⟩=some (.int .i64 nd.kids):=λo1=>((Em ((Below.refl w.heap.size w).alloc nL o1)).1 _ _ hlt).trans (hN.2 k nd hnd).2.2.2
 obtain⟨gk,c,k0,k1⟩:=fD hK hout;have hkn:=La hol hout;have hgk:gk<w.heap.size:=block_lt_of_cell k1;have HB0:Hid (Below w.heap.size w ((w.alloc (Obj.cells #[.slice (some ⟨g,0,none⟩) ns.length cn] 158)).alloc (Obj.cells #[.int .i64 3,.string nd.name,.string nd.value,.int .i64 nd.kids] 184))):=((Below.refl w.heap.size w).alloc nL _).alloc (by simp) _;have m0:=cell_regrown ((HB0.out.cell (p:=⟨go,k,none⟩) hK.1).trans k0);have m1:=cell_regrown ((HB0.out.cell (p:=⟨gk,0,none⟩) hgk).trans k1);have s0:=cell_regrown (show((w.alloc (Obj.cells #[.slice (some ⟨g,0,none⟩) ns.length cn] 158)).alloc (Obj.cells #[.int .i64 3,.string nd.name,.string nd.value,.int .i64 nd.kids] 184)).cell? ⟨w.heap.size,0,none⟩=some (.slice (some ⟨g,0,none⟩) ns.length cn) by simp);have cA:∀d os,Calls prog 124 #[.agg #[.slice (some ⟨g,0,none⟩) ns.length cn],.slice (some ⟨go,0,none⟩) n co,.int .i64 (a:Int),.slice am ms.length cm] (Sort.grow (redrawn ((w.alloc (Obj.cells #[.slice (some ⟨g,0,none⟩) ns.length cn] 158)).alloc (Obj.cells #[.int .i64 3,.string nd.name,.string nd.value,.int .i64 nd.kids] 184)) d) os) λe w''=>e=.returned (.bool (Bw ms t))/\∃p:Regrown,w''=Sort.grow (redrawn ((w.alloc (Obj.cells #[.slice (some ⟨g,0,none⟩) ns.length cn] 158)).alloc (Obj.cells #[.int .i64 3,.string nd.name,.string nd.value,.int .i64 nd.kids] 184)) p.d) p.os :=
  λd os=>Calls.regrown_of (ih _ ((hNN.out.grown HB0).grown (below_regrown _ d os)) ((hKK.out.grown HB0).grown (below_regrown _ d os)) ((hMM.out.below StrC.holds HB0 nL).below StrC.holds (below_regrown _ d os) nL))
 show Calls _ _ _ _ λe w'=>e=.returned (.bool (!Bw ms t))/\_
 clear hN hK hnd hk hM hNN hKK hMM k0 k1 hout ih;generalize Bw ms t=X at *;generalize((a:Nat):Int)=ia at *;go_enter func124,ntmps124;go_wp2_with fail;clear q0 q1 q2 q3;generalize((w.alloc (Obj.cells #[.slice (some ⟨g,0,none⟩) ns.length cn] 158)).alloc (Obj.cells #[.int .i64 3,.string nd.name,.string nd.value,.int .i64 nd.kids] 184))=W at *;cases X
 all_goals
  refine wp_region_quiet_below (by kernel_rfl) (by kernel_rfl) ?_
  repeat(go_big_quiet_step (first|(go_at_call 124;exact cA _ _)))
  refine wpQuiet_nil ?_;intro w5 hw';obtain⟨⟨dq,osq⟩,hw''⟩:=hw';have hB:=below_regrown W dq osq;simp only[]at hw'';rw[<-hw'']at hB;have HB5:=qTH HB0 hB;clear hw'' hB
  go_wp2
  go_ret;exact⟨rfl,HB5⟩
theorem iC(ns:List P.Nd)(out:List (List Nat))(n cn co go g:Nat)(ms:List BA)(am:OA)(cm:Nat)(k a b:Nat)(t u:P.Tr)(nd:P.Nd)(hol:out.length=n)(hnd:ns[k]?=some nd)(hk:nd.kind=4)(hout:out[k]?=some [a,b])(ih:Ge ns out n cn co go g ms am cm a t)(ih':Ge ns out n cn co go g ms am cm b u):Ge ns out n cn co go g ms am cm k (P.anT t u):=by
 intro w hN hK hM;have hkl:=P.getElem?_lt hnd;have hlt:=hN.1;have hml:ms.length<=maxLen:=hM.1;unfold maxLen at hml;have hNN:=iH hN;have hKK:=iH hK;have hMM:=iH hM;have q0:∀o1,(w.alloc o1).cell? ⟨g,k*4,none⟩=some (.int .i64 4):=λo1=>((Em ((Below.refl w.heap.size w).alloc nL o1)).1 _ _ hlt).trans (by rw[<-hk];exact(hN.2 k nd hnd).1)
 have q1:∀o1,(w.alloc o1).cell? ⟨g,k*4+1,none⟩=some (.string nd.name):=λo1=>((Em ((Below.refl w.heap.size w).alloc nL o1)).1 _ _ hlt).trans (hN.2 k nd hnd).2.1
 have q2:∀o1,(w.alloc o1).cell? ⟨g,k*4+2,none⟩=some (.string nd.value):=λo1=>((Em ((Below.refl w.heap.size w).alloc nL o1)).1 _ _ hlt).trans (hN.2 k nd hnd).2.2.1
 have q3:∀o1,(w.alloc o1).cell? ⟨g,k*4+3,none⟩=some (.int .i64 nd.kids):=λo1=>((Em ((Below.refl w.heap.size w).alloc nL o1)).1 _ _ hlt).trans (hN.2 k nd hnd).2.2.2
 obtain⟨gk,c,k0,k1,k2⟩:=Pj hK hout;have hkn:=La hol hout;have hgk:gk<w.heap.size:=block_lt_of_cell k1;have HB0:Hid (Below w.heap.size w ((w.alloc (Obj.cells #[.slice (some ⟨g,0,none⟩) ns.length cn] 158)).alloc (Obj.cells #[.int .i64 4,.string nd.name,.string nd.value,.int .i64 nd.kids] 184))):=((Below.refl w.heap.size w).alloc nL _).alloc (by simp) _;have m0:=cell_regrown ((HB0.out.cell (p:=⟨go,k,none⟩) hK.1).trans k0);have m1:=cell_regrown ((HB0.out.cell (p:=⟨gk,0,none⟩) hgk).trans k1);have m2:=cell_regrown ((HB0.out.cell (p:=⟨gk,1,none⟩) hgk).trans k2);have s0:=cell_regrown (show((w.alloc (Obj.cells #[.slice (some ⟨g,0,none⟩) ns.length cn] 158)).alloc (Obj.cells #[.int .i64 4,.string nd.name,.string nd.value,.int .i64 nd.kids] 184)).cell? ⟨w.heap.size,0,none⟩=some (.slice (some ⟨g,0,none⟩) ns.length cn) by simp);have cA:∀d os,Calls prog 124 #[.agg #[.slice (some ⟨g,0,none⟩) ns.length cn],.slice (some ⟨go,0,none⟩) n co,.int .i64 (a:Int),.slice am ms.length cm] (Sort.grow (redrawn ((w.alloc (Obj.cells #[.slice (some ⟨g,0,none⟩) ns.length cn] 158)).alloc (Obj.cells #[.int .i64 4,.string nd.name,.string nd.value,.int .i64 nd.kids] 184)) d) os) λe w''=>e=.returned (.bool (Bw ms t))/\∃p:Regrown,w''=Sort.grow (redrawn ((w.alloc (Obj.cells #[.slice (some ⟨g,0,none⟩) ns.length cn] 158)).alloc (Obj.cells #[.int .i64 4,.string nd.name,.string nd.value,.int .i64 nd.kids] 184)) p.d) p.os :=
  λd os=>Calls.regrown_of (ih _ ((hNN.out.grown HB0).grown (below_regrown _ d os)) ((hKK.out.grown HB0).grown (below_regrown _ d os)) ((hMM.out.below StrC.holds HB0 nL).below StrC.holds (below_regrown _ d os) nL))
 have cB:∀d os,Calls prog 124 #[.agg #[.slice (some ⟨g,0,none⟩) ns.length cn],.slice (some ⟨go,0,none⟩) n co,.int .i64 (b:Int),.slice am ms.length cm] (Sort.grow (redrawn ((w.alloc (Obj.cells #[.slice (some ⟨g,0,none⟩) ns.length cn] 158)).alloc (Obj.cells #[.int .i64 4,.string nd.name,.string nd.value,.int .i64 nd.kids] 184)) d) os) λe w''=>e=.returned (.bool (Bw ms u))/\∃p:Regrown,w''=Sort.grow (redrawn ((w.alloc (Obj.cells #[.slice (some ⟨g,0,none⟩) ns.length cn] 158)).alloc (Obj.cells #[.int .i64 4,.string nd.name,.string nd.value,.int .i64 nd.kids] 184)) p.d) p.os :=
  λd os=>Calls.regrown_of (ih' _ ((hNN.out.grown HB0).grown (below_regrown _ d os)) ((hKK.out.grown HB0).grown (below_regrown _ d os)) ((hMM.out.below StrC.holds HB0 nL).below StrC.holds (below_regrown _ d os) nL))
 show Calls _ _ _ _ λe w'=>e=.returned (.bool (Bw ms t&&Bw ms u))/\_
 clear hN hK hnd hk hM hNN hKK hMM k0 k1 k2 hout ih ih';generalize Bw ms t=X at *;generalize Bw ms u=Y at *;generalize((a:Nat):Int)=ia at *;generalize((b:Nat):Int)=ib at *;go_enter func124,ntmps124;go_wp2_with fail;clear q0 q1 q2 q3;generalize((w.alloc (Obj.cells #[.slice (some ⟨g,0,none⟩) ns.length cn] 158)).alloc (Obj.cells #[.int .i64 4,.string nd.name,.string nd.value,.int .i64 nd.kids] 184))=W at *;cases X
 all_goals
  refine wp_region_quiet_below (by kernel_rfl) (by kernel_rfl) ?_
  repeat(go_big_quiet_step (first|(go_at_call_has 124 ia;exact cA _ _)|(go_at_call_has 124 ib;exact cB _ _)))
  refine wpQuiet_nil ?_;intro w5 hw';obtain⟨⟨dq,osq⟩,hw''⟩:=hw';have hB:=below_regrown W dq osq;simp only[]at hw'';rw[<-hw'']at hB;have HB5:=qTH HB0 hB;clear hw'' hB
  go_wp2
  go_ret;exact⟨rfl,HB5⟩
theorem jQ(ns:List P.Nd)(out:List (List Nat))(n cn co go g:Nat)(ms:List BA)(am:OA)(cm:Nat)(k a b:Nat)(t u:P.Tr)(nd:P.Nd)(hol:out.length=n)(hnd:ns[k]?=some nd)(hk:nd.kind=5)(hout:out[k]?=some [a,b])(ih:Ge ns out n cn co go g ms am cm a t)(ih':Ge ns out n cn co go g ms am cm b u):Ge ns out n cn co go g ms am cm k (P.orT t u):=by
 intro w hN hK hM;have hkl:=P.getElem?_lt hnd;have hlt:=hN.1;have hml:ms.length<=maxLen:=hM.1;unfold maxLen at hml;have hNN:=iH hN;have hKK:=iH hK;have hMM:=iH hM;have q0:∀o1,(w.alloc o1).cell? ⟨g,k*4,none⟩=some (.int .i64 5):=λo1=>((Em ((Below.refl w.heap.size w).alloc nL o1)).1 _ _ hlt).trans (by rw[<-hk];exact(hN.2 k nd hnd).1)
 have q1:∀o1,(w.alloc o1).cell? ⟨g,k*4+1,none⟩=some (.string nd.name):=λo1=>((Em ((Below.refl w.heap.size w).alloc nL o1)).1 _ _ hlt).trans (hN.2 k nd hnd).2.1
 have q2:∀o1,(w.alloc o1).cell? ⟨g,k*4+2,none⟩=some (.string nd.value):=λo1=>((Em ((Below.refl w.heap.size w).alloc nL o1)).1 _ _ hlt).trans (hN.2 k nd hnd).2.2.1
 have q3:∀o1,(w.alloc o1).cell? ⟨g,k*4+3,none⟩=some (.int .i64 nd.kids):=λo1=>((Em ((Below.refl w.heap.size w).alloc nL o1)).1 _ _ hlt).trans (hN.2 k nd hnd).2.2.2
 obtain⟨gk,c,k0,k1,k2⟩:=Pj hK hout;have hkn:=La hol hout;have hgk:gk<w.heap.size:=block_lt_of_cell k1;have HB0:Hid (Below w.heap.size w ((w.alloc (Obj.cells #[.slice (some ⟨g,0,none⟩) ns.length cn] 158)).alloc (Obj.cells #[.int .i64 5,.string nd.name,.string nd.value,.int .i64 nd.kids] 184))):=((Below.refl w.heap.size w).alloc nL _).alloc (by simp) _;have m0:=cell_regrown ((HB0.out.cell (p:=⟨go,k,none⟩) hK.1).trans k0);have m1:=cell_regrown ((HB0.out.cell (p:=⟨gk,0,none⟩) hgk).trans k1);have m2:=cell_regrown ((HB0.out.cell (p:=⟨gk,1,none⟩) hgk).trans k2);have s0:=cell_regrown (show((w.alloc (Obj.cells #[.slice (some ⟨g,0,none⟩) ns.length cn] 158)).alloc (Obj.cells #[.int .i64 5,.string nd.name,.string nd.value,.int .i64 nd.kids] 184)).cell? ⟨w.heap.size,0,none⟩=some (.slice (some ⟨g,0,none⟩) ns.length cn) by simp);have cA:∀d os,Calls prog 124 #[.agg #[.slice (some ⟨g,0,none⟩) ns.length cn],.slice (some ⟨go,0,none⟩) n co,.int .i64 (a:Int),.slice am ms.length cm] (Sort.grow (redrawn ((w.alloc (Obj.cells #[.slice (some ⟨g,0,none⟩) ns.length cn] 158)).alloc (Obj.cells #[.int .i64 5,.string nd.name,.string nd.value,.int .i64 nd.kids] 184)) d) os) λe w''=>e=.returned (.bool (Bw ms t))/\∃p:Regrown,w''=Sort.grow (redrawn ((w.alloc (Obj.cells #[.slice (some ⟨g,0,none⟩) ns.length cn] 158)).alloc (Obj.cells #[.int .i64 5,.string nd.name,.string nd.value,.int .i64 nd.kids] 184)) p.d) p.os :=
  λd os=>Calls.regrown_of (ih _ ((hNN.out.grown HB0).grown (below_regrown _ d os)) ((hKK.out.grown HB0).grown (below_regrown _ d os)) ((hMM.out.below StrC.holds HB0 nL).below StrC.holds (below_regrown _ d os) nL))
 have cB:∀d os,Calls prog 124 #[.agg #[.slice (some ⟨g,0,none⟩) ns.length cn],.slice (some ⟨go,0,none⟩) n co,.int .i64 (b:Int),.slice am ms.length cm] (Sort.grow (redrawn ((w.alloc (Obj.cells #[.slice (some ⟨g,0,none⟩) ns.length cn] 158)).alloc (Obj.cells #[.int .i64 5,.string nd.name,.string nd.value,.int .i64 nd.kids] 184)) d) os) λe w''=>e=.returned (.bool (Bw ms u))/\∃p:Regrown,w''=Sort.grow (redrawn ((w.alloc (Obj.cells #[.slice (some ⟨g,0,none⟩) ns.length cn] 158)).alloc (Obj.cells #[.int .i64 5,.string nd.name,.string nd.value,.int .i64 nd.kids] 184)) p.d) p.os :=
  λd os=>Calls.regrown_of (ih' _ ((hNN.out.grown HB0).grown (below_regrown _ d os)) ((hKK.out.grown HB0).grown (below_regrown _ d os)) ((hMM.out.below StrC.holds HB0 nL).below StrC.holds (below_regrown _ d os) nL))
 show Calls _ _ _ _ λe w'=>e=.returned (.bool (Bw ms t||Bw ms u))/\_
 clear hN hK hnd hk hM hNN hKK hMM k0 k1 k2 hout ih ih';generalize Bw ms t=X at *;generalize Bw ms u=Y at *;generalize((a:Nat):Int)=ia at *;generalize((b:Nat):Int)=ib at *;go_enter func124,ntmps124;go_wp2_with fail;clear q0 q1 q2 q3;generalize((w.alloc (Obj.cells #[.slice (some ⟨g,0,none⟩) ns.length cn] 158)).alloc (Obj.cells #[.int .i64 5,.string nd.name,.string nd.value,.int .i64 nd.kids] 184))=W at *;cases X
 all_goals
  refine wp_region_quiet_below (by kernel_rfl) (by kernel_rfl) ?_
  repeat(go_big_quiet_step (first|(go_at_call_has 124 ia;exact cA _ _)|(go_at_call_has 124 ib;exact cB _ _)))
  refine wpQuiet_nil ?_;intro w5 hw';obtain⟨⟨dq,osq⟩,hw''⟩:=hw';have hB:=below_regrown W dq osq;simp only[]at hw'';rw[<-hw'']at hB;have HB5:=qTH HB0 hB;clear hw'' hB
  go_wp2
  go_ret;exact⟨rfl,HB5⟩
theorem uC(ns:List P.Nd)(out:List (List Nat))(n cn co go g:Nat)(ms:List BA)(am:OA)(cm:Nat)(hol:out.length=n)(t:P.Tr)(k:Nat)(h:P.IsT ns out k t):Ge ns out n cn co go g ms am cm k t:=by
 refine P.isT_ind (ns:=ns) (out:=out) (p:=λk t=>Ge ns out n cn co go g ms am cm k t) ?_ ?_ ?_ ?_ ?_ ?_ t k h
 .intro k nd hnd hk _
  exact gA ns out n cn co go g ms am cm k nd hnd hk
 .intro k nd hnd hk _
  exact jY ns out n cn co go g ms am cm k nd hnd hk
 .intro k nd hnd hk _
  exact iF ns out n cn co go g ms am cm k nd hnd hk
 .intro k nd a t hnd hk hout _ _ ih
  exact iM ns out n cn co go g ms am cm k a t nd hol hnd hk hout ih
 .intro k nd a b t u hnd hk hout _ _ _ _ ih ih'
  exact iC ns out n cn co go g ms am cm k a b t u nd hol hnd hk hout ih ih'
 .intro k nd a b t u hnd hk hout _ _ _ _ ih ih'
  exact jQ ns out n cn co go g ms am cm k a b t u nd hol hnd hk hout ih ih'
def Iz(ns:List P.Nd)(ms:List BA):Bool:=Ie ns&&(match P.treeI ns with|some t=>Bw ms t|none=>false)
theorem Wt(ns:List P.Nd)(g cn:Nat)(ms:List BA)(am:OA)(cm:Nat)(w:World)(hN:Nodes0 w g ns)(hsm:cH ns)(hM:SliceC StrC 1 0 w am ms) :
  Calls prog 93 #[.agg #[.slice (some ⟨g,0,none⟩) ns.length cn],.slice am ms.length cm] w (Rt (.bool (Iz ns ms)) w):=by
 have HN:=iH hN;have HS:=iH hsm;have HM:=iH hM;clear hN hsm hM
 cases hv:Ie ns with
 |false =>
  have HV:=iH hv;have HO:Hid (false=Iz ns ms):=by show _=_;rw[Iz,hv];rfl
  clear hv;go_enter func93,ntmps93;go_wp2_with fail;refine(Rf ns g cn _ (HN.out.grown (by go_grown)) HS).mono ?_;rintro e w1⟨rfl,hb⟩;rw[HV.out]
  go_wp2
  go_ret;exact⟨Ab HO,((Below.refl _ w).alloc nL _).trans (hb.mono (by simp))⟩
 | true =>
  have HV:=iH hv;have hv0:=hv;unfold Ie at hv;simp only[Bool.and_eq_true]at hv;obtain⟨ht,hi⟩:=hv;obtain⟨out,r,t,hko,hol,hrl,hIs,hlo,hhi,hfin,hct⟩:=P.same_tree2 ht;have hlen:=Vw ht;have h20:P.tall t<=20:=by
   by_cases h:P.tall t<=20
   .exact h
   .rw[hhi (by omega)]at hi
    cases hi
  have HKO:=iH hko;have cc:=λgo co=>uC ns out ns.length cn co go g ms am cm hol t r hIs
  unfold Ge at cc;rw[show((r:Nat):Int)=(ns.length:Int)-1 by omega]at cc;have HC:Hid (∀(go co:Nat)(w:World),Nodes0 w g ns->KidsIn w go out->SliceC StrC 1 0 w am ms->Calls prog 124 #[.agg #[.slice (some ⟨g,0,none⟩) ns.length cn],.slice (some ⟨go,0,none⟩) ns.length co,.int .i64 ((ns.length:Int)-1),.slice am ms.length cm] w λe w'=>e=.returned (.bool (Bw ms t))/\Below w.heap.size w w'):=cc;have hl1:1<=ns.length:=by omega
  have HO:Hid (Bw ms t=Iz ns ms):=by
   show _=_
   rw[Iz,hv0,hlo h20];rfl
  clear ht hko cc hIs hlo hhi hct hrl hol hfin h20 hi hv0;generalize Bw ms t=X at *;go_enter func93,ntmps93;go_wp2_with fail;refine(Rf ns g cn _ (HN.out.grown (by go_grown)) HS).mono ?_;rintro e w1⟨rfl,hb⟩;rw[HV.out];have hB1:Below w.heap.size w w1:=((Below.refl _ w).alloc nL _).trans (hb.mono (by simp));have hc1:w1.cell? ⟨w.heap.size,0,none⟩=some (.slice (some ⟨g,0,none⟩) ns.length cn):=(hb.cell (p:=⟨w.heap.size,0,none⟩) (by simp)).trans (by simp);have hz1:w.heap.size<w1.heap.size:=by have:=hb.size;simp at this;omega
  clear hb;go_wp2_with fail;refine(Vc ns g cn _ (HN.out.grown hB1) hlen).mono ?_;rintro e w2⟨hb2,h2⟩;rw[HKO.out]at h2;obtain⟨go,co,rfl,hkin,_⟩:=h2;have hc2:w2.cell? ⟨w.heap.size,0,none⟩=some (.slice (some ⟨g,0,none⟩) ns.length cn):=(hb2.cell (p:=⟨w.heap.size,0,none⟩) hz1).trans hc1;have HB:=iH (hB1.trans (hb2.mono (by omega)));have HK:=iH hkin;clear hb2 hkin hc1 hB1;go_wp2_with fail;refine(HC _ _ _ (HN.out.grown HB) HK (HM.out.below StrC.holds HB nL)).mono ?_;rintro e w3⟨rfl,hb3⟩;have HB3:=qTH HB hb3;clear hb3
  go_wp2
  go_ret;exact⟨Ab HO,HB3⟩
open Go.WideMaps Go.Maps Tryz
def Iu(ks:List BA)(s:BA):Bool:=decide (0<Ck s ks)
def eqB:BA:=⟨#[61]⟩
def Db(ks:List BA):P.Tr->Bool
 |.nil=>true
 |.node b _ p l r =>
  if b=0 then true
  else if b=1 then Iu ks p.1
  else if b=2 then Iu ks (p.1++eqB++p.2)
  else if b=3 then !Db ks l
  else if b=4 then Db ks l&&Db ks r
  else Db ks l||Db ks r
def Hl:P.Tr->Prop
 |.nil=>True
 |.node _ _ p l r=>p.1.size<=1000/\p.2.size<=1000/\Hl l/\Hl r
structure oH (name:String):Prop where
 c0:∀v w,(callMethod (.iface 262 (.agg #[])) name #[v]).run prog w=.ok (.enter 250 #[.agg #[],v]) w
 c1:∀n v w,(callMethod (.iface 294 (.agg #[.string n])) name #[v]).run prog w=.ok (.enter 267 #[.agg #[.string n],v]) w
 c2:∀n m v w,(callMethod (.iface 296 (.agg #[.string n,.string m])) name #[v]).run prog w=.ok (.enter 270 #[.agg #[.string n,.string m],v]) w
 c3:∀x h v w,(callMethod (.iface 290 (.agg #[x,.int .i64 h])) name #[v]).run prog w=.ok (.enter 263 #[.agg #[x,.int .i64 h],v]) w
 c4:∀x y h v w,(callMethod (.iface 288 (.agg #[x,y,.int .i64 h])) name #[v]).run prog w=.ok (.enter 259 #[.agg #[x,y,.int .i64 h],v]) w
 c5:∀x y h v w,(callMethod (.iface 286 (.agg #[x,y,.int .i64 h])) name #[v]).run prog w=.ok (.enter 255 #[.agg #[x,y,.int .i64 h],v]) w
def MtR(ks:List BA)(t:P.Tr)(w:World)(u:Value)(w':World):Prop:=u=.bool (Db ks t)/\Below w.heap.size w w'
def qE(t:P.Tr):Prop:=∀(name:String),oH name->∀(x:Value),Hid (val t=x)->∀(m n:Nat)(ks:List BA)(w:World),w.ownsMap prog 9 (plainElem prog 3) m n (Gi ks)->Hl t->vA prog x name #[.map (some m)] w (MtR ks t w)
theorem Wu(v:Value)(w:World):Calls prog 250 #[.agg #[],v] w (Rt (.bool true) w):=by
 go_enter func250,ntmps250
 go_wp2
 go_ret;exact⟨rfl,by go_grown⟩
theorem kU(ks:List BA)(s:BA):decide ((0:Int)<((Ck s ks:Nat):Int))=Iu ks s:=by
 unfold Iu
 congr 1
 apply propext;omega
theorem Tp(s:BA)(m n:Nat)(ks:List BA)(w:World)(ho:w.ownsMap prog 9 (plainElem prog 3) m n (Gi ks))(hs:s.size<=1000) :
  Calls prog 267 #[.agg #[.string s],.map (some m)] w (Rt (.bool (Iu ks s)) w):=by
 have hk:keyOf prog 9 (.string s)=some (kOf s):=keyOf_string_mk underlying9 (by unfold maxLen;omega);have HA:Hid ((Gi ks).atKey (kOf s) (.lit (.int .i64 0))=.lit (.int .i64 ((Ck s ks:Nat):Int))):=Nl s ks;have HH:Hid (decide ((0:Int)<((Ck s ks:Nat):Int))=Iu ks s):=kU ks s;have HO:=iH ho;clear ho;generalize((Ck s ks:Nat):Int)=cc at *;generalize Iu ks s=R at *;go_enter func267,ntmps267;go_wp2_with(at_lookup;refine wpList_lookup_own_int _ rfl _ _ 212 rfl 9 3 .i64 Cp underlying212 underlying3 (Cz _) m _ _ rfl (Af HO (by first|exact Below.refl _ _|exact(Below.refl _ _).alloc nL _) HO.out.lt) _ _ rfl hk ?_;intro c hcc _;obtain rfl:=Eg (hcc.symm.trans HA));go_ret;exact⟨Ab HH,by go_grown⟩
theorem Sm(s t:BA)(m n:Nat)(ks:List BA)(w:World)(ho:w.ownsMap prog 9 (plainElem prog 3) m n (Gi ks))(hs:s.size<=1000)(ht:t.size<=1000) :
  Calls prog 270 #[.agg #[.string s,.string t],.map (some m)] w (Rt (.bool (Iu ks (s++eqB++t))) w):=by
 have hk:keyOf prog 9 (.string (s++eqB++t))=some (kOf (s++eqB++t)):=keyOf_string_mk underlying9 (by have:eqB.size=1:=rfl;unfold maxLen;rw[ByteArray.size_append,ByteArray.size_append];omega);have HA:Hid ((Gi ks).atKey (kOf (s++eqB++t)) (.lit (.int .i64 0))=.lit (.int .i64 ((Ck (s++eqB++t) ks:Nat):Int))):=Nl _ ks;have HH:Hid (decide ((0:Int)<((Ck (s++eqB++t) ks:Nat):Int))=Iu ks (s++eqB++t)):=kU ks _;have HO:=iH ho;clear ho;generalize((Ck (s++eqB++t) ks:Nat):Int)=cc at *;generalize Iu ks (s++eqB++t)=R at *;go_enter func270,ntmps270;go_wp2_with(at_lookup;refine wpList_lookup_own_int _ rfl _ _ 212 rfl 9 3 .i64 Cp underlying212 underlying3 (Cz _) m _ _ rfl (Af HO (by first|exact Below.refl _ _|exact(Below.refl _ _).alloc nL _) HO.out.lt) (.string (s++eqB++t)) _ rfl hk ?_;intro c hcc _;obtain rfl:=Eg (hcc.symm.trans HA));go_ret;exact⟨Ab HH,by go_grown⟩
theorem aV(k:P.Tr)(hw:P.wf k)(hk:qE k)(h:Int)(m n:Nat)(ks:List BA)(w:World)(ho:w.ownsMap prog 9 (plainElem prog 3) m n (Gi ks))(hs:Hl k) :
  Calls prog 263 #[.agg #[val k,.int .i64 h],.map (some m)] w (Rt (.bool (!Db ks k)) w):=by
 have HK:=iH hk;have HO:=iH ho;have HS:=iH hs;obtain⟨ty,q,hv⟩:=Cv hw;rw[hv];have HV:=iH hv;clear ho hk hv hs;go_enter func263,ntmps263;go_wp2_with(refine Dp rfl (.tmp 6) _ #[.tmp 7] #[212] rfl _ rfl #[.map (some m)] (Ni _ _) _ (HK _ ⟨λ_ _=>by kernel_rfl,λ_ _ _=>by kernel_rfl,λ_ _ _ _=>by kernel_rfl,λ_ _ _ _=>by kernel_rfl,λ_ _ _ _ _=>by kernel_rfl,λ_ _ _ _ _=>by kernel_rfl⟩ _ HV m n ks _ (Af HO ((Below.refl _ _).alloc nL _) HO.out.lt) HS) ?_;rintro u w1 ⟨rfl,hb1⟩);go_ret;exact⟨rfl,((Below.refl _ _).alloc nL _).trans (hb1.mono (by simp))⟩
theorem Xd(s t:P.Tr)(hs:P.wf s)(ht:P.wf t)(hl:qE s)(hr:qE t)(h:Int)(m n:Nat)(ks:List BA)(w:World)(ho:w.ownsMap prog 9 (plainElem prog 3) m n (Gi ks))(hss:Hl s)(hst:Hl t) :
  Calls prog 259 #[.agg #[val s,val t,.int .i64 h],.map (some m)] w (Rt (.bool (Db ks s&&Db ks t)) w):=by
 have HL:=iH hl;have HR:=iH hr;have HO:=iH ho;have HSS:=iH hss;have HST:=iH hst;obtain⟨ty,q,hv⟩:=Cv hs;obtain⟨ty',q',hv'⟩:=Cv ht;rw[hv,hv'];have HV:=iH hv;have HV':Hid (val t=.iface ty' q'):=hv';clear ho hl hr hv hv' hss hst;have HC:Hid (∃b,Db ks s=b):=⟨_,rfl⟩;obtain⟨bs,hbs⟩:=HC.out;rw[hbs];have HBS:=iH hbs;clear HC hbs;generalize hB2:Db ks t=bt;have HBT:=iH hB2;clear hB2;go_enter func259,ntmps259;go_upto_region 1 with fail;have hal:=(Below.refl _ w).alloc nL (Obj.cells #[.iface ty q,.iface ty' q',.int .i64 h] 288);have e0:(w.alloc (Obj.cells #[.iface ty q,.iface ty' q',.int .i64 h] 288)).cell? ⟨w.heap.size,0,none⟩=some (.iface ty q):=by simp
 have e1:(w.alloc (Obj.cells #[.iface ty q,.iface ty' q',.int .i64 h] 288)).cell? ⟨w.heap.size,1,none⟩=some (.iface ty' q'):=by simp
 have HO1:=iH (Af HO hal HO.out.lt);have HB1:=iH hal;clear hal HO;generalize w.alloc (Obj.cells #[.iface ty q,.iface ty' q',.int .i64 h] 288)=w1 at *;cases bs
 all_goals
  go_wp2_with(first
   |(refine Dp rfl (.tmp 7) _ #[.tmp 8] #[212] rfl _ rfl #[.map (some m)] (Ni _ _) _ (HL _ ⟨λ_ _=>by kernel_rfl,λ_ _ _=>by kernel_rfl,λ_ _ _ _=>by kernel_rfl,λ_ _ _ _=>by kernel_rfl,λ_ _ _ _ _=>by kernel_rfl,λ_ _ _ _ _=>by kernel_rfl⟩ _ HV m n ks _ HO1 HSS) ?_;rintro u w2⟨hu,hb2⟩;rw[HBS.out]at hu;subst hu;have e12:w2.cell? ⟨w.heap.size,1,none⟩=some (.iface ty' q'):=(hb2.cell (p:=⟨w.heap.size,1,none⟩) (block_lt_of_cell e1)).trans e1;have HO2:Hid (w2.ownsMap prog 9 (plainElem prog 3) m n (Gi ks)):=Af HO1 hb2 HO1.out.lt;have HB2:Hid (Below w.heap.size w w2):=qTr HB1 hb2;clear hb2)
   |(refine Dp rfl (.tmp 13) _ #[.tmp 14] #[212] rfl _ rfl #[.map (some m)] (Ni _ _) _ (HR _ ⟨λ_ _=>by kernel_rfl,λ_ _ _=>by kernel_rfl,λ_ _ _ _=>by kernel_rfl,λ_ _ _ _=>by kernel_rfl,λ_ _ _ _ _=>by kernel_rfl,λ_ _ _ _ _=>by kernel_rfl⟩ _ HV' m n ks _ HO2 HST) ?_;rintro u w3⟨hu,hb3⟩;rw[HBT.out]at hu;subst hu;have HB3:Hid (Below w.heap.size w w3):=qTr HB2 hb3;clear hb3))
  go_ret
  first
   |exact⟨rfl,HB3⟩
   |exact⟨rfl,HB2⟩
   |exact⟨Ab (by cases bt<;>rfl),HB3⟩
theorem Sn(s t:P.Tr)(hs:P.wf s)(ht:P.wf t)(hl:qE s)(hr:qE t)(h:Int)(m n:Nat)(ks:List BA)(w:World)(ho:w.ownsMap prog 9 (plainElem prog 3) m n (Gi ks))(hss:Hl s)(hst:Hl t) :
  Calls prog 255 #[.agg #[val s,val t,.int .i64 h],.map (some m)] w (Rt (.bool (Db ks s||Db ks t)) w):=by
 have HL:=iH hl;have HR:=iH hr;have HO:=iH ho;have HSS:=iH hss;have HST:=iH hst;obtain⟨ty,q,hv⟩:=Cv hs;obtain⟨ty',q',hv'⟩:=Cv ht;rw[hv,hv'];have HV:=iH hv;have HV':Hid (val t=.iface ty' q'):=hv';clear ho hl hr hv hv' hss hst;have HC:Hid (∃b,Db ks s=b):=⟨_,rfl⟩;obtain⟨bs,hbs⟩:=HC.out;rw[hbs];have HBS:=iH hbs;clear HC hbs;generalize hB2:Db ks t=bt;have HBT:=iH hB2;clear hB2;go_enter func255,ntmps255;go_upto_region 1 with fail;have hal:=(Below.refl _ w).alloc nL (Obj.cells #[.iface ty q,.iface ty' q',.int .i64 h] 286);have e0:(w.alloc (Obj.cells #[.iface ty q,.iface ty' q',.int .i64 h] 286)).cell? ⟨w.heap.size,0,none⟩=some (.iface ty q):=by simp
 have e1:(w.alloc (Obj.cells #[.iface ty q,.iface ty' q',.int .i64 h] 286)).cell? ⟨w.heap.size,1,none⟩=some (.iface ty' q'):=by simp
 have HO1:=iH (Af HO hal HO.out.lt);have HB1:=iH hal;clear hal HO;generalize w.alloc (Obj.cells #[.iface ty q,.iface ty' q',.int .i64 h] 286)=w1 at *;cases bs
 all_goals
  go_wp2_with(first
   |(refine Dp rfl (.tmp 7) _ #[.tmp 8] #[212] rfl _ rfl #[.map (some m)] (Ni _ _) _ (HL _ ⟨λ_ _=>by kernel_rfl,λ_ _ _=>by kernel_rfl,λ_ _ _ _=>by kernel_rfl,λ_ _ _ _=>by kernel_rfl,λ_ _ _ _ _=>by kernel_rfl,λ_ _ _ _ _=>by kernel_rfl⟩ _ HV m n ks _ HO1 HSS) ?_;rintro u w2⟨hu,hb2⟩;rw[HBS.out]at hu;subst hu;have e12:w2.cell? ⟨w.heap.size,1,none⟩=some (.iface ty' q'):=(hb2.cell (p:=⟨w.heap.size,1,none⟩) (block_lt_of_cell e1)).trans e1;have HO2:Hid (w2.ownsMap prog 9 (plainElem prog 3) m n (Gi ks)):=Af HO1 hb2 HO1.out.lt;have HB2:Hid (Below w.heap.size w w2):=qTr HB1 hb2;clear hb2)
   |(refine Dp rfl (.tmp 13) _ #[.tmp 14] #[212] rfl _ rfl #[.map (some m)] (Ni _ _) _ (HR _ ⟨λ_ _=>by kernel_rfl,λ_ _ _=>by kernel_rfl,λ_ _ _ _=>by kernel_rfl,λ_ _ _ _=>by kernel_rfl,λ_ _ _ _ _=>by kernel_rfl,λ_ _ _ _ _=>by kernel_rfl⟩ _ HV' m n ks _ HO2 HST) ?_;rintro u w3⟨hu,hb3⟩;rw[HBT.out]at hu;subst hu;have HB3:Hid (Below w.heap.size w w3):=qTr HB2 hb3;clear hb3))
  go_ret
  first
   |exact⟨rfl,HB3⟩
   |exact⟨rfl,HB2⟩
   |exact⟨Ab (by cases bt<;>rfl),HB3⟩
theorem rY:∀(t:P.Tr),P.wf t->qE t:=by
 refine P.wf_ind ?_ ?_ ?_ ?_ ?_ ?_
 .intro name H x hx m n ks w ho hs
  rw[<-hx.out];exact⟨_,_,H.c0 _ w,(Wu _ w).mono λe w' ⟨he,hb⟩=>⟨_,he,rfl,hb⟩⟩
 .intro s name H x hx m n ks w ho hs
  rw[<-hx.out];exact⟨_,_,H.c1 s _ w,(Tp s m n ks w ho hs.1).mono λe w' ⟨he,hb⟩=>⟨_,he,rfl,hb⟩⟩
 .intro s v name H x hx m n ks w ho hs
  rw[<-hx.out];exact⟨_,_,H.c2 s v _ w,(Sm s v m n ks w ho hs.1 hs.2.1).mono λe w' ⟨he,hb⟩=>⟨_,he,rfl,hb⟩⟩
 .intro k hw hk name H x hx m n ks w ho hs
  rw[<-hx.out];exact⟨_,_,H.c3 _ _ _ w,(aV k hw hk _ m n ks w ho hs.2.2.1).mono λe w' ⟨he,hb⟩=>⟨_,he,rfl,hb⟩⟩
 .intro a b ha hb hka hkb name H x hx m n ks w ho hs
  rw[<-hx.out];exact⟨_,_,H.c4 _ _ _ _ w,(Xd a b ha hb hka hkb _ m n ks w ho hs.2.2.1 hs.2.2.2).mono λe w' ⟨he,hb⟩=>⟨_,he,rfl,hb⟩⟩
 .intro a b ha hb hka hkb name H x hx m n ks w ho hs
  rw[<-hx.out];exact⟨_,_,H.c5 _ _ _ _ w,(Sn a b ha hb hka hkb _ m n ks w ho hs.2.2.1 hs.2.2.2).mono λe w' ⟨he,hb⟩=>⟨_,he,rfl,hb⟩⟩
end Go.Proofs.YtpidfnfilnkhkaaGreat
