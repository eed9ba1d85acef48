import Derived.Test.YtkiloaiffopllaaGreatJ21
set_option maxHeartbeats 4000000
set_option maxRecDepth 100000
namespace Go.Proofs.YtkiloaiffopllaaGreat
open Go.RowKit
theorem Ui {P:Aks→Bool} {xs:List Aks} {k:Nat} {x:Aks} (h:xs[k]?=some x):(xs.take (k+1)).filter P=(xs.take k).filter P++(if P x=true then [x] else []):=by
 rw [List.take_add_one,h,List.filter_append]
 congr 1
 simp [List.filter_cons]
theorem Kw (h:BA) (xs:List Aks) (a:OA) (cap lo:Nat) (w:World) (hin:SliceC AksC 4 lo w a xs) (hsm:xs.length≤1048576) :
  Calls Tryz.prog 61 #[.slice a xs.length cap,.string h] w fun e w'=>∃ (b q:Nat),e=.returned (.slice (some ⟨b,0,none⟩) (xs.filter (fun g:Aks=>!decide (g.hold=h))).length q)∧w'.ownsRow w.heap.size 52 4 (.slice (some ⟨b,0,none⟩) (xs.filter (fun g:Aks=>!decide (g.hold=h))).length q) (xs.filter (fun g:Aks=>!decide (g.hold=h))).length (An (xs.filter (fun g:Aks=>!decide (g.hold=h))))∧Below w.heap.size w w':=by
 obtain ⟨i0,hi,hz0,hz1,hz2⟩:=info_parts Fe;have HI:=iH hin;clear hin;go_enter Tryz.func61,Tryz.ntmps61;go_wp2_with fail;go_loopw [5,6] (fun v i wr=>∃ (k b q m:Nat),k≤xs.length∧i=.int .i64 k∧v=.slice (some ⟨b,0,none⟩) m q∧Hid (m=((xs.take k).filter (fun g:Aks=>!decide (g.hold=h))).length)∧m≤k∧Hid (wr.ownsRow w.heap.size 52 4 (.slice (some ⟨b,0,none⟩) m q) m (An ((xs.take k).filter (fun g:Aks=>!decide (g.hold=h)))))∧Below w.heap.size w wr) (fun _ i _=>xs.length - (intOf i).toNat)
 case atStart=>exact ⟨0,w.heap.size,0,0,zL,rfl,rfl,rfl,Nat.le_refl _,World.ownsRow_made w #[] 0 nL (zL) rfl,(Below.refl _ _).alloc nL _⟩
 case round =>
  obtain ⟨k,b1,q,m,hk,rfl,rfl,HML,hmk,HO,hB⟩:=hrel;by_cases hlt:k<xs.length
  case neg =>
   have hke:k=xs.length:=by omega
   subst hke;rw [List.take_length] at HML HO;go_wp2_with fail;go_ret;exact ⟨b1,q,(by rw [← HML.out];rfl),(by rw [← HML.out];exact HO.out),hB⟩
  obtain ⟨x,hx⟩:=gXe hlt;obtain ⟨b,ob,rfl,_,hbl,hc⟩:=(HI.out.below AksC.holds hB nL).at hx;have HRA:=iH (Dh hc);have q0:wr.cell? ⟨b,ob+k*4,none⟩=some (.string x.hold):=by simpa using hc.1
  have HST:=iH (Ui (P:=(fun g:Aks=>!decide (g.hold=h))) hx);clear hc hx;by_cases hh:x.hold=h
  ·have HO6:Hid (wr.ownsRow w.heap.size 52 4 (.slice (some ⟨b1,0,none⟩) m q) m (An ((xs.take (k+1)).filter (fun g:Aks=>!decide (g.hold=h))))):=by
    show World.ownsRow _ _ _ _ _ _ _
    rw [HST.out,if_neg (by simp [hh]),List.append_nil];exact HO.out
   have HML2:Hid (m=((xs.take (k+1)).filter (fun g:Aks=>!decide (g.hold=h))).length):=by
    show _=_
    rw [HST.out,if_neg (by simp [hh]),List.append_nil];exact HML.out
   have hh2:(x.hold.toList == h.toList)=true:=by rw [hh];simp
   clear hh HO HRA;go_wp2_with fail;go_roundw
   case rel=>exact ⟨k+1,b1,q,m,by omega,by go_num,rfl,HML2,by omega,HO6,hB⟩
   case measure=>simp [intOf];omega
  ·have HIF:Hid ((if (!decide (x.hold=h))=true then [x] else [])=[x]):=by show _=_;rw [if_pos (by simp [hh])]
   have hh2:(x.hold.toList == h.toList)=false:=Lg hh;clear hh;obtain ⟨NV,hnv⟩:∃ l,l=Db x:=⟨_,rfl⟩;have HNV:=iH hnv;clear hnv;have HNL:Hid (NV.length=1*4):=by show _=_;rw [HNV.out];rfl
   have HNN:Hid (∀ j u,NV[j]?=some u→(wr.alloc (Obj.cells (aaA x) 52)).cell? ((⟨wr.heap.size,0,none⟩:Addr).add j)=some u):=by
    intro j u hj;rw [Addr.add_mid];rw [HNV.out] at hj;exact (Blk.alloc wr (aaA x) 52).rangeA j u hj
   have HN1:Hid (∀ u∈NV,u.oneCell'=true):=by
    intro u hu;rw [HNV.out] at hu;exact Bq [x] u (by simp only [An,List.append_nil];exact hu)
   have HOA:=iH (HO.out.alloc (Obj.cells (aaA x) 52));have hws:w.heap.size≤wr.heap.size:=hB.size;go_wp2_with (first | (refine qLr Gd HRA ?_) | (at_builtin;refine wpList_append_own _ rfl _ _ 30 rfl w.heap.size 52 i0 _ 4 48 Tryz.underlying30 hi hz0 hz1 hz2 rfl (by decide) _ m _ rfl HOA ⟨wr.heap.size,0,none⟩ 1 1 NV rfl HNL HNN HN1 (by unfold maxLen;omega) (by omega) (by simp;omega) ?_;intro v' w8 hown8 hgrow8 hnil8;have hv8:v'≠.slice none 0 0:=(fun e=>by have h9:=(hnil8.1 e).2;cases h9);obtain ⟨g8,q8,rfl⟩:=Co hown8 hv8));have HO8:Hid (w8.ownsRow w.heap.size 52 4 (.slice (some ⟨g8,0,none⟩) (m+1) q8) (m+1) (An ((xs.take (k+1)).filter (fun g:Aks=>!decide (g.hold=h))))):=by
    show World.ownsRow _ _ _ _ _ _ _
    rw [HST.out,HIF.out,Ds];rw [HNV.out] at hown8;simp only [An,List.append_nil];exact hown8
   have HML2:Hid (m+1=((xs.take (k+1)).filter (fun g:Aks=>!decide (g.hold=h))).length):=by
    show _=_
    rw [HST.out,HIF.out,List.length_append];rw [← HML.out];rfl
   have hB8:Below w.heap.size w w8:=(hB.alloc hB.size _).grown hgrow8 (by have:=hB.size;simp;omega) (Lu HO);clear hown8 hgrow8 hnil8 hv8;go_wp2_with fail;go_roundw
   case rel=>exact ⟨k+1,g8,q8,m+1,by omega,by go_num,rfl,HML2,by omega,HO8,hB8⟩
   case measure=>simp [intOf];omega
def ltN (a b:BA):Bool:=Op.bytesLess a.toList b.toList
def Ip {α:Type} (nm:α→BA) (s:BA):List α→List α
 | []=>[]
 | y::r=>if nm y=s then r else y::r
def Az {α:Type} (nm:α→BA) (xs:List α) (a:α):List α:=xs.takeWhile (fun x=>ltN (nm x) (nm a))++a::Ip nm (nm a) (xs.dropWhile (fun x=>ltN (nm x) (nm a)))
theorem Jn {α:Type} {p:α→Bool}:∀ {xs:List α} {k:Nat},(∀ x∈xs.take k,p x=true)→(∀ y,xs[k]?=some y→p y=false)→xs.takeWhile p=xs.take k∧xs.dropWhile p=xs.drop k
 | [],k,_,_=>by simp
 | x::s,0,_,h2=>by
  have:=h2 x rfl;simp [this]
 | x::s,k+1,h1,h2=>by
  have hx:p x=true:=h1 x (by simp);obtain ⟨e1,e2⟩:=Jn (p:=p) (xs:=s) (k:=k) (fun y hy=>h1 y (by rw [List.take_succ_cons];exact List.mem_cons_of_mem _ hy)) (fun y hy=>h2 y (by simpa using hy));rw [List.takeWhile_cons,List.dropWhile_cons,if_pos hx,if_pos hx,e1,e2];exact ⟨rfl,rfl⟩
theorem Rg {α:Type} {nm:α→BA} {xs:List α} {a:α} (h1:∀ x∈xs.take xs.length,ltN (nm x) (nm a)=true):Az nm xs a=xs.take xs.length++a::[]:=by
 obtain ⟨e1,e2⟩:=Jn (p:=fun x=>ltN (nm x) (nm a)) h1 (fun y hy=>by simp at hy);unfold Az;rw [e1,e2,List.drop_length];rfl
theorem Wz {α:Type} {nm:α→BA} {xs:List α} {a y:α} {k:Nat} (h1:∀ x∈xs.take k,ltN (nm x) (nm a)=true) (hy:xs[k]?=some y) (hn:ltN (nm y) (nm a)=false) (he:nm y=nm a):Az nm xs a=xs.take k++a::xs.drop (k+1):=by
 have hl:=Ah hy;have hg:xs[k]=y:=by rw [gE hl] at hy;exact Option.some.inj hy
 obtain ⟨e1,e2⟩:=Jn (p:=fun x=>ltN (nm x) (nm a)) h1 (fun z hz=>by rw [hy] at hz;cases hz;exact hn);unfold Az;rw [e1,e2,List.drop_eq_getElem_cons hl,hg];rw [show Ip nm (nm a) (y::xs.drop (k+1))=xs.drop (k+1) from if_pos he]
theorem Ss {α:Type} {nm:α→BA} {xs:List α} {a y:α} {k:Nat} (h1:∀ x∈xs.take k,ltN (nm x) (nm a)=true) (hy:xs[k]?=some y) (hn:ltN (nm y) (nm a)=false) (he:nm y≠nm a):Az nm xs a=xs.take k++a::xs.drop k:=by
 have hl:=Ah hy;have hg:xs[k]=y:=by rw [gE hl] at hy;exact Option.some.inj hy
 obtain ⟨e1,e2⟩:=Jn (p:=fun x=>ltN (nm x) (nm a)) h1 (fun z hz=>by rw [hy] at hz;cases hz;exact hn);unfold Az;rw [e1,e2,List.drop_eq_getElem_cons hl,hg];rw [show Ip nm (nm a) (y::xs.drop (k+1))=y::xs.drop (k+1) from if_neg he]
theorem Oz {α:Type} (nm:α→BA) (s:BA) (xs:List α):(Ip nm s xs).Sublist xs:=by
 cases xs with
 | nil=>exact List.Sublist.refl _
 | cons y r =>
  by_cases he:nm y=s
  ·rw [show Ip nm s (y::r)=r from if_pos he]
   exact List.sublist_cons_self _ _
  ·rw [show Ip nm s (y::r)=y::r from if_neg he]
   exact List.Sublist.refl _
theorem Dy {α:Type} {nm:α→BA} {xs:List α} {a x:α} (h:x∈Az nm xs a):x=a∨x∈xs:=by
 unfold Az at h;rcases List.mem_append.1 h with h | h
 ·exact .inr ((List.takeWhile_sublist _).subset h)
 ·rcases List.mem_cons.1 h with h | h
  ·exact .inl h
  ·exact .inr (((Oz nm _ _).trans (List.dropWhile_sublist _)).subset h)
theorem Qw {α:Type} (nm:α→BA) (xs:List α) (a:α):(Az nm xs a).length≤xs.length+1:=by
 unfold Az;have h1:=(Oz nm (nm a) (xs.dropWhile (fun x=>ltN (nm x) (nm a)))).length_le;have h2:=congrArg List.length (List.takeWhile_append_dropWhile (p:=fun x=>ltN (nm x) (nm a)) (l:=xs));rw [List.length_append] at h2;rw [List.length_append,List.length_cons];omega
end Go.Proofs.YtkiloaiffopllaaGreat
namespace Go.Proofs.YtkiloaiffopllaaGreat
open Go.RowKit Go.WideMaps Go.Maps Go.Sort
def Asc {α:Type} (nm:α→BA) (xs:List α):Prop:=xs.Pairwise (fun x y=>(nm x).toList<(nm y).toList)
theorem Mj (a b:BA):ltN a b=decide (a.toList<b.toList):=by unfold ltN;rw [bytesLess_eq]
theorem Hp {a b:BA} (h:a.toList=b.toList):a=b:=by
 rw [ByteArray.toList_eq,ByteArray.toList_eq] at h
 cases a with | mk x=>cases b with | mk y=>simp at h;simp [h]
theorem Yf (a:List UInt8):¬ a<a:=List.lt_irrefl a
theorem bT {a b c:List UInt8} (h:a<b) (h':b<c):a<c:=List.lt_trans h h'
theorem Ef {a b:BA} (h:a.toList<b.toList):a≠b:=fun e=>Yf _ (e▸h)
theorem Yv {a b:BA} (h:¬ a.toList<b.toList) (hn:a≠b):b.toList<a.toList:=by
 by_cases h2:b.toList<a.toList
 ·exact h2
 ·exact absurd (Hp (List.le_antisymm (List.not_lt.1 h2) (List.not_lt.1 h))) hn
theorem Qe {α:Type} {nm:α→BA} {xs:List α} (h:Aw (xs.map nm) xs.length=true):Asc nm xs:=by
 have h2:=Uc (ns:=xs.map nm) (by rw [List.length_map];exact h);unfold nmL at h2;rw [List.map_map,List.pairwise_map] at h2;exact h2
theorem Asc.to {α:Type} {nm:α→BA} {xs:List α} (h:Asc nm xs):Aw (xs.map nm) xs.length=true:=by
 rw [show xs.length=(xs.map nm).length by simp];apply Rk;unfold nmL;rw [List.map_map,List.pairwise_map];exact h
theorem Hz {α:Type} (nm:α→BA) (y:α) (r:List α) (a:α):Az nm (y::r) a=if ltN (nm y) (nm a)=true then y::Az nm r a else if nm y=nm a then a::r else a::y::r:=by
 unfold Az;by_cases h:ltN (nm y) (nm a)=true
 ·rw [if_pos h,List.takeWhile_cons,List.dropWhile_cons,if_pos h,if_pos h];rfl
 ·rw [if_neg h,List.takeWhile_cons,List.dropWhile_cons,if_neg h,if_neg h]
  by_cases e:nm y=nm a
  ·rw [if_pos e,show Ip nm (nm a) (y::r)=r from if_pos e];rfl
  ·rw [if_neg e,show Ip nm (nm a) (y::r)=y::r from if_neg e];rfl
theorem Dx {α:Type} {nm:α→BA} {a x:α}:∀ {xs:List α},Asc nm xs→(x∈Az nm xs a↔x=a∨(x∈xs∧nm x≠nm a))
 | [],_=>by simp [Az,Ip]
 | y::r,h=>by
  have h1:=(List.pairwise_cons.1 h).1;have ih:=Dx (x:=x) (a:=a) (List.pairwise_cons.1 h).2;rw [Hz,Mj];by_cases c:(nm y).toList<(nm a).toList
  ·rw [if_pos (decide_eq_true c),List.mem_cons,ih,List.mem_cons]
   constructor
   ·rintro (rfl | rfl | ⟨h2,h3⟩)
    ·exact .inr ⟨.inl rfl,Ef c⟩
    ·exact .inl rfl
    ·exact .inr ⟨.inr h2,h3⟩
   ·rintro (rfl | ⟨rfl | h2,h3⟩)
    ·exact .inr (.inl rfl)
    ·exact .inl rfl
    ·exact .inr (.inr ⟨h2,h3⟩)
  ·rw [if_neg (by simp [c])]
   by_cases e:nm y=nm a
   ·rw [if_pos e,List.mem_cons,List.mem_cons]
    constructor
    ·rintro (rfl | h2)
     ·exact .inl rfl
     ·exact .inr ⟨.inr h2,fun e2=>Ef (h1 x h2) (e.trans e2.symm)⟩
    ·rintro (rfl | ⟨rfl | h2,h3⟩)
     ·exact .inl rfl
     ·exact absurd e h3
     ·exact .inr h2
   ·have c2:=Yv c e
    rw [if_neg e,List.mem_cons,List.mem_cons];constructor
    ·rintro (rfl | rfl | h2)
     ·exact .inl rfl
     ·exact .inr ⟨.inl rfl,e⟩
     ·exact .inr ⟨.inr h2,fun e2=>Ef (bT c2 (h1 x h2)) e2.symm⟩
    ·rintro (rfl | ⟨rfl | h2,_⟩)
     ·exact .inl rfl
     ·exact .inr (.inl rfl)
     ·exact .inr (.inr h2)
theorem Asc.put {α:Type} {nm:α→BA} {a:α}:∀ {xs:List α},Asc nm xs→Asc nm (Az nm xs a)
 | [],_=>by simp [Az,Ip,Asc]
 | y::r,h=>by
  obtain ⟨h1,h2⟩:=List.pairwise_cons.1 h;have ih:=Asc.put (a:=a) h2;rw [Hz,Mj];by_cases c:(nm y).toList<(nm a).toList
  ·rw [if_pos (decide_eq_true c)]
   refine List.pairwise_cons.2 ⟨fun z hz=>?_,ih⟩;rcases Dy hz with rfl | hz
   ·exact c
   ·exact h1 z hz
  ·rw [if_neg (by simp [c])]
   by_cases e:nm y=nm a
   ·rw [if_pos e]
    exact List.pairwise_cons.2 ⟨fun z hz=>e▸h1 z hz,h2⟩
   ·rw [if_neg e]
    have c2:=Yv c e;refine List.pairwise_cons.2 ⟨fun z hz=>?_,h⟩;rcases List.mem_cons.1 hz with rfl | hz
    ·exact c2
    ·exact bT c2 (h1 z hz)
theorem Vd {α:Type} {nm:α→BA} {a:α}:∀ {xs:List α},(∀ x∈xs,nm x≠nm a)→(Az nm xs a).length=xs.length+1
 | [],_=>rfl
 | y::r,h=>by
  have ih:=Vd (a:=a) (nm:=nm) (xs:=r) (fun x hx=>h x (List.mem_cons_of_mem _ hx));rw [Hz]
  split
  ·simp [ih]
  ·rw [if_neg (h y List.mem_cons_self)];simp
theorem TabA.set {D:DataW Unit} {xs:List Aks} (h:TabA D xs) (hm:IsMap D) (a:Aks) (hs:Asc (·.hold) xs):TabA (D.put (kOf a.hold) (Iz a)) (Az (·.hold) xs a):=by
 refine ⟨fun s=>?_,fun x hx=>?_⟩
 ·by_cases e:s=a.hold
  ·subst e
   rw [has_put_same hm (show WideAt.IsKeyLit (kOf _) from trivial) _]
   symm
   exact List.any_eq_true.2 ⟨a,(Dx hs).2 (.inl rfl),by simp⟩
  ·rw [has_put_other (fun h=>e (Cl h)),h.has_ s,Bool.eq_iff_iff,List.any_eq_true,List.any_eq_true]
   constructor
   ·rintro ⟨z,hz,e2⟩
    have e3:z.hold=s:=of_decide_eq_true e2;exact ⟨z,(Dx hs).2 (.inr ⟨hz,fun e4=>e (e3.symm.trans e4)⟩),e2⟩
   ·rintro ⟨z,hz,e2⟩
    rcases (Dx hs).1 hz with rfl | ⟨hz,_⟩
    ·exact absurd (of_decide_eq_true e2).symm e
    ·exact ⟨z,hz,e2⟩
 ·rcases (Dx hs).1 hx with rfl | ⟨hz,hne⟩
  ·exact atKey_put_same hm (show WideAt.IsKeyLit (kOf _) from trivial) _ _
  ·rw [atKey_put_other (fun h=>hne (Cl h))]
   exact h.at_ x hz
theorem TabR.set {D:DataW Unit} {xs:List Rn} (h:TabR D xs) (hm:IsMap D) (a:Rn) (hs:Asc (·.want.copy) xs):TabR (D.put (kOf a.want.copy) (Jo a)) (Az (·.want.copy) xs a):=by
 refine ⟨fun s=>?_,fun x hx=>?_⟩
 ·by_cases e:s=a.want.copy
  ·subst e
   rw [has_put_same hm (show WideAt.IsKeyLit (kOf _) from trivial) _]
   symm
   exact List.any_eq_true.2 ⟨a,(Dx hs).2 (.inl rfl),by simp⟩
  ·rw [has_put_other (fun h=>e (Cl h)),h.has_ s,Bool.eq_iff_iff,List.any_eq_true,List.any_eq_true]
   constructor
   ·rintro ⟨z,hz,e2⟩
    have e3:z.want.copy=s:=of_decide_eq_true e2;exact ⟨z,(Dx hs).2 (.inr ⟨hz,fun e4=>e (e3.symm.trans e4)⟩),e2⟩
   ·rintro ⟨z,hz,e2⟩
    rcases (Dx hs).1 hz with rfl | ⟨hz,_⟩
    ·exact absurd (of_decide_eq_true e2).symm e
    ·exact ⟨z,hz,e2⟩
 ·rcases (Dx hs).1 hx with rfl | ⟨hz,hne⟩
  ·exact atKey_put_same hm (show WideAt.IsKeyLit (kOf _) from trivial) _ _
  ·rw [atKey_put_other (fun h=>hne (Cl h))]
   exact h.at_ x hz
theorem TabR.del {D:DataW Unit} {xs:List Rn} (h:TabR D xs) (s:BA):TabR (D.del (kOf s)) (xs.filter (fun g=>!decide (g.want.copy=s))):=by
 refine ⟨fun t=>?_,fun x hx=>?_⟩
 ·by_cases e:t=s
  ·subst e
   rw [has_del_same]
   symm
   rw [List.any_eq_false];intro a ha;have:=(List.mem_filter.1 ha).2;simpa using this
  ·rw [has_del_other (fun h=>e (Cl h)),h.has_ t]
   rw [Bool.eq_iff_iff,List.any_eq_true,List.any_eq_true];constructor
   ·rintro ⟨a,ha,e2⟩
    exact ⟨a,List.mem_filter.2 ⟨ha,by have:=of_decide_eq_true e2;simp [this,e]⟩,e2⟩
   ·rintro ⟨a,ha,e2⟩
    exact ⟨a,(List.mem_filter.1 ha).1,e2⟩
 ·obtain ⟨h1,h2⟩:=List.mem_filter.1 hx
  have hne:¬ x.want.copy=s:=by simpa using h2
  rw [atKey_del_other (fun h=>hne (Cl h))];exact h.at_ x h1
theorem Mp {P:Program} {k:TypeId} {R:Value→Option (DataW Unit×List MemPlace)} {w:World} {b n:Nat} {D:DataW Unit} (hown:w.ownsMap P k R b n D) (K:Keyed P k) (hk:P.underlying k=some .string) {ns:List BA} (ha:Aw ns ns.length=true) (hm:∀ x,x∈nmL ns↔has D (.string x)=true):Maps.size D=ns.length:=by
 obtain ⟨es,hD,hpw,_⟩:=hown.entries K;obtain ⟨es',hD',hko⟩:=hown.keysOf;obtain rfl:es=es':=by rw [hD] at hD';simpa using hD'
 subst hD;have hp:=perm_strKeys hpw (fun p hp=>by obtain ⟨v,hv⟩:=hko p hp;obtain ⟨x,_,hx,_⟩:=Maps.keyOf_str hk hv;exact ⟨x,hx⟩) (Ki ha) hm;have:=hp.length_eq;rw [show (strKeys (.map es)).length=es.length by simp [strKeys]] at this;rw [size_eq,← this];simp [nmL]
theorem TabA.size {P:Program} {k:TypeId} {R:Value→Option (DataW Unit×List MemPlace)} {w:World} {b n:Nat} {D:DataW Unit} {xs:List Aks} (h:TabA D xs) (hown:w.ownsMap P k R b n D) (K:Keyed P k) (hk:P.underlying k=some .string) (ha:Asc (·.hold) xs):Maps.size D=xs.length:=by
 have:=Mp hown K hk (ns:=xs.map (·.hold)) (by rw [List.length_map];exact ha.to) h.mem
 rwa [List.length_map] at this
theorem TabR.size {P:Program} {k:TypeId} {R:Value→Option (DataW Unit×List MemPlace)} {w:World} {b n:Nat} {D:DataW Unit} {xs:List Rn} (h:TabR D xs) (hown:w.ownsMap P k R b n D) (K:Keyed P k) (hk:P.underlying k=some .string) (ha:Asc (·.want.copy) xs):Maps.size D=xs.length:=by
 have:=Mp hown K hk (ns:=xs.map (·.want.copy)) (by rw [List.length_map];exact ha.to) h.mem
 rwa [List.length_map] at this
end Go.Proofs.YtkiloaiffopllaaGreat
namespace Go.Proofs.YtkiloaiffopllaaGreat
open Go.RowKit
def Bh (x:Mte) (h:BA):Mte:=match x.asks.find? (fun a=>decide (a.hold=h)) with
 | none=>x
 | some a=>{ x with asks:=x.asks.filter (fun g=>!decide (g.hold=h)),gives:=if x.gives.length<40 then Az (·.hold) x.gives a else x.gives }
def liveStep (lv:Rn→Rn×Bool) (x:Mte) (r:Rn):Mte :=
 if (lv r).2=true then { x with runs:=x.runs.map (fun z=>if z.want.copy=r.want.copy then (lv r).1 else z) }
 else Bh { x with runs:=x.runs.filter (fun z=>!decide (z.want.copy=r.want.copy)) } r.want.hold
def Gx (lv:Rn→Rn×Bool) (r:Rn):Option Rn:=if (lv r).2=true then some (lv r).1 else none
theorem Sa (x:Mte) (h:BA):(Bh x h).runs=x.runs:=by unfold Bh;split <;> rfl
theorem Xv {x y:Mte} (h:BA) (ha:x.asks=y.asks) (hg:x.gives=y.gives):(Bh x h).asks=(Bh y h).asks∧(Bh x h).gives=(Bh y h).gives:=by
 unfold Bh;rw [ha,hg]
 split
 ·exact ⟨ha,hg⟩
 ·exact ⟨rfl,rfl⟩
theorem Zc {α:Type} {nm:α→BA} {xs:List α} {s:BA} {k:Nat} (ha:Asc nm xs) (h1:∀ x∈xs.take k,ltN (nm x) s=true) (h2:∀ y,xs[k]?=some y→ltN (nm y) s=false):xs.any (fun x=>decide (nm x=s))=(match xs[k]? with | some y=>decide (nm y=s) | none=>false):=by
 have n1:∀ x∈xs.take k,nm x≠s:=fun x hx=>by
  have:=h1 x hx;rw [Mj] at this;exact Ef (of_decide_eq_true this)
 cases hk:xs[k]? with
 | none =>
  have hl:xs.length≤k:=List.getElem?_eq_none_iff.1 hk;rw [List.take_of_length_le hl] at n1;exact List.any_eq_false.2 (fun x hx=>by simp [n1 x hx])
 | some y =>
  have hl:=Ah hk;have hg:xs[k]=y:=by rw [gE hl] at hk;exact Option.some.inj hk
  have e:xs=xs.take k++y::xs.drop (k+1):=by
   rw [← hg,← List.drop_eq_getElem_cons hl,List.take_append_drop]
  rw [e] at ha;have h4:=(List.pairwise_cons.1 (List.pairwise_append.1 ha).2.1).1;have hy:¬ (nm y).toList<s.toList:=by
   have:=h2 y hk;rw [Mj] at this;exact of_decide_eq_false this
  rw [Bool.eq_iff_iff,List.any_eq_true];constructor
  ·rintro ⟨z,hz,e2⟩
   rw [e] at hz;rcases List.mem_append.1 hz with hz | hz
   ·exact absurd (of_decide_eq_true e2) (n1 z hz)
   ·rcases List.mem_cons.1 hz with rfl | hz
    ·exact e2
    ·exact absurd (h4 z hz) (fun h=>hy (by rw [← of_decide_eq_true e2];exact h))
  ·intro e2
   exact ⟨y,List.mem_of_getElem? hk,e2⟩
def startStep (x:Mte) (w:Wnt):Mte:=if (!x.runs.any (fun r=>decide (r.want.copy=w.copy)) && decide (x.runs.length<20))=true then { x with runs:=Az (·.want.copy) x.runs ⟨w,1,w.pull,0,0⟩ } else x
theorem Xa {x:Mte} (w:Wnt) (h:Asc (·.want.copy) x.runs):Asc (·.want.copy) (startStep x w).runs:=by
 unfold startStep
 split
 ·exact h.put
 ·exact h
theorem Wt {x:Mte} (w:Wnt) (h:x.runs.length≤20):(startStep x w).runs.length≤20:=by
 unfold startStep
 split
 ·rename_i c
  rw [Bool.and_eq_true,Bool.not_eq_true',decide_eq_true_eq] at c;show (Az _ _ _).length≤20
  rw [Vd (fun r hr e=>by have:=List.any_eq_false.1 c.1 r hr;simp [show r.want.copy=w.copy from e] at this)];omega
 ·exact h
def Bz (x:Mte) (w:Wnt):Bool:=!x.gives.any (fun a=>decide (a.hold=w.hold)) && (match x.asks.find? (fun a=>decide (a.hold=w.hold)) with
 | none=>decide (x.asks.length<40)
 | some a=>!decide (a.copy=w.copy) || decide (a.at_+6≤x.clock))
def Gq (x:Mte) (w:Wnt):Aks:=⟨w.hold,w.copy,(match x.asks.find? (fun a=>decide (a.hold=w.hold)) with
 | none=>x.clock
 | some a=>if a.copy=w.copy then a.first else x.clock),x.clock⟩
def Ch (x:Mte) (w:Wnt):Mte:={ x with asks:=Az (·.hold) x.asks (Gq x w) }
end Go.Proofs.YtkiloaiffopllaaGreat
