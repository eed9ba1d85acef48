import Derived.Test.YtpeajnkkdioflaaGreatJ14
import Derived.Sort.KeysCollected
import Derived.Sort.Walk0
set_option maxHeartbeats 2000000
set_option maxRecDepth 100000
namespace Go.Proofs.YtpeajnkkdioflaaGreat
open Go.RowKit Go.WideMaps Go.Maps Go.Sort
def Asc {α:Type} (nm:α→ByteArray) (xs:List α):Prop:=xs.Pairwise (fun x y=>(nm x).toList<(nm y).toList)
theorem Mn (a b:ByteArray):ltN a b=decide (a.toList<b.toList):=by unfold ltN;rw [bytesLess_eq]
theorem Mq {a b:ByteArray} (h:a.toList=b.toList):a=b:=by
 rw [ByteArray.toList_eq,ByteArray.toList_eq] at h
 cases a with | mk x=>cases b with | mk y=>simp at h;simp [h]
theorem Pq (a:List UInt8):¬ a<a:=List.lt_irrefl a
theorem eJ {a b c:List UInt8} (h:a<b) (h':b<c):a<c:=List.lt_trans h h'
theorem Hj {a b:ByteArray} (h:a.toList<b.toList):a≠b:=fun e=>Pq _ (e▸h)
theorem Xo {a b:ByteArray} (h:¬ a.toList<b.toList) (hn:a≠b):b.toList<a.toList:=by
 by_cases h2:b.toList<a.toList
 ·exact h2
 ·exact absurd (Mq (List.le_antisymm (List.not_lt.1 h2) (List.not_lt.1 h))) hn
theorem Rv {α:Type} (nm:α→ByteArray) (y:α) (r:List α) (a:α):Fy nm (y::r) a=if ltN (nm y) (nm a)=true then y::Fy nm r a else if nm y=nm a then a::r else a::y::r:=by
 unfold Fy;by_cases h:ltN (nm y) (nm a)=true
 ·rw [if_pos h,List.takeWhile_cons,List.dropWhile_cons,if_pos h,if_pos h];rfl
 ·rw [if_neg h,List.takeWhile_cons,List.dropWhile_cons,if_neg h,if_neg h]
  by_cases e:nm y=nm a
  ·rw [if_pos e,show Jx nm (nm a) (y::r)=r from if_pos e];rfl
  ·rw [if_neg e,show Jx nm (nm a) (y::r)=y::r from if_neg e];rfl
theorem Gi {α:Type} {nm:α→ByteArray} {a x:α}:∀ {xs:List α},Asc nm xs→(x∈Fy nm xs a↔x=a∨(x∈xs∧nm x≠nm a))
 | [],_=>by simp [Fy,Jx]
 | y::r,h=>by
  have h1:=(List.pairwise_cons.1 h).1;have ih:=Gi (x:=x) (a:=a) (List.pairwise_cons.1 h).2;rw [Rv,Mn];by_cases c:(nm y).toList<(nm a).toList
  ·rw [if_pos (decide_eq_true c),List.mem_cons,ih,List.mem_cons]
   constructor
   ·rintro (rfl | rfl | ⟨h2,h3⟩)
    ·exact .inr ⟨.inl rfl,Hj c⟩
    ·exact .inl rfl
    ·exact .inr ⟨.inr h2,h3⟩
   ·rintro (rfl | ⟨rfl | h2,h3⟩)
    ·exact .inr (.inl rfl)
    ·exact .inl rfl
    ·exact .inr (.inr ⟨h2,h3⟩)
  ·rw [if_neg (by simp [c])]
   by_cases e:nm y=nm a
   ·rw [if_pos e,List.mem_cons,List.mem_cons]
    constructor
    ·rintro (rfl | h2)
     ·exact .inl rfl
     ·exact .inr ⟨.inr h2,fun e2=>Hj (h1 x h2) (e.trans e2.symm)⟩
    ·rintro (rfl | ⟨rfl | h2,h3⟩)
     ·exact .inl rfl
     ·exact absurd e h3
     ·exact .inr h2
   ·have c2:=Xo c e
    rw [if_neg e,List.mem_cons,List.mem_cons];constructor
    ·rintro (rfl | rfl | h2)
     ·exact .inl rfl
     ·exact .inr ⟨.inl rfl,e⟩
     ·exact .inr ⟨.inr h2,fun e2=>Hj (eJ c2 (h1 x h2)) e2.symm⟩
    ·rintro (rfl | ⟨rfl | h2,_⟩)
     ·exact .inl rfl
     ·exact .inr (.inl rfl)
     ·exact .inr (.inr h2)
theorem Asc.put {α:Type} {nm:α→ByteArray} {a:α}:∀ {xs:List α},Asc nm xs→Asc nm (Fy nm xs a)
 | [],_=>by simp [Fy,Jx,Asc]
 | y::r,h=>by
  obtain ⟨h1,h2⟩:=List.pairwise_cons.1 h;have ih:=Asc.put (a:=a) h2;rw [Rv,Mn];by_cases c:(nm y).toList<(nm a).toList
  ·rw [if_pos (decide_eq_true c)]
   refine List.pairwise_cons.2 ⟨fun z hz=>?_,ih⟩;rcases Vo hz with rfl | hz
   ·exact c
   ·exact h1 z hz
  ·rw [if_neg (by simp [c])]
   by_cases e:nm y=nm a
   ·rw [if_pos e]
    exact List.pairwise_cons.2 ⟨fun z hz=>e▸h1 z hz,h2⟩
   ·rw [if_neg e]
    have c2:=Xo c e;refine List.pairwise_cons.2 ⟨fun z hz=>?_,h⟩;rcases List.mem_cons.1 hz with rfl | hz
    ·exact c2
    ·exact eJ c2 (h1 z hz)
theorem Asc.inj {α:Type} {nm:α→ByteArray}:∀ {xs:List α} {x y:α},Asc nm xs→x∈xs→y∈xs→nm x=nm y→x=y
 | [],_,_,_,h,_,_=>by cases h
 | z::r,x,y,h,hx,hy,e=>by
  obtain ⟨h1,h2⟩:=List.pairwise_cons.1 h;rcases List.mem_cons.1 hx with rfl | hx
  ·rcases List.mem_cons.1 hy with rfl | hy
   ·rfl
   ·exact absurd e (Hj (h1 y hy))
  ·rcases List.mem_cons.1 hy with e2 | hy
   ·exact absurd e.symm (Hj (e2▸h1 x hx))
   ·exact Asc.inj h2 hx hy e
theorem Asc.find {α:Type} {nm:α→ByteArray} {xs:List α} {x:α} (h:Asc nm xs) (hx:x∈xs):xs.find? (fun y=>decide (nm y=nm x))=some x:=by
 cases e:xs.find? (fun y=>decide (nm y=nm x)) with
 | none=>exact absurd (decide_eq_true (rfl:nm x=nm x)) (List.find?_eq_none.1 e x hx)
 | some y =>
  have h9:=List.find?_some e;rw [h.inj (List.mem_of_find?_eq_some e) hx (of_decide_eq_true h9)]
def nmL (ns:List ByteArray):List (List UInt8):=ns.map (fun s=>s.toList)
theorem dE {ns:List ByteArray} (h:Asc id ns):(nmL ns).Pairwise (·<·):=by
 unfold nmL;rw [List.pairwise_map];exact h
theorem bM {ns:List ByteArray} (h:Asc id ns):(nmL ns).Nodup:=(dE h).imp (fun hl e=>by subst e;exact absurd hl (List.lt_irrefl _))
theorem Kp {ns:List ByteArray} (h:Asc id ns) {ss:List (List UInt8)} (hp:ss.Perm (nmL ns)):ss.mergeSort (fun x y=>decide (x≤y))=nmL ns:=by
 have h1:=mergeSort_of_perm hp;have h2:(nmL ns).mergeSort leB=nmL ns:=List.mergeSort_of_pairwise ((dE h).imp (fun hl=>decide_eq_true (List.le_of_lt hl)));exact h1.trans h2
theorem bQ {H:Type} {P:Program} {k:TypeId} {R:Value→Option (DataW H×List MemPlace)} {w:World} {b n:Nat} {D0:DataW H} (hown:w.ownsMap P k R b n D0) (K:Keyed P k) (hk:P.underlying k=some .string) {ns:List ByteArray} (h:Asc id ns) (hm:∀ x,x∈nmL ns↔has D0 (.string x)=true):(nmL ns).Perm (strKeys D0) :=
 Collected.perm (left:=fun _=>false) ⟨bM h,fun x=>by rw [hm x];simp⟩ hown K hk (fun _=>rfl)
theorem Sm (s:ByteArray):(⟨s.toList.toArray⟩:ByteArray)=s:=by
 rw [ByteArray.toList_eq]
def Hp (v:Value):Option (DataW Value×List MemPlace):=some (.held v,[])
def TabV (z:Value) (f:ByteArray→Option Value) (D:DataW Value):Prop:=(∀ s,has D (kOf s)=(f s).isSome)∧∀ s,D.atKey (kOf s) (.held z)=.held ((f s).getD z)
def Mc (f:ByteArray→Option Value) (s:ByteArray) (v:Value):ByteArray→Option Value:=fun t=>if t=s then some v else f t
theorem TabV.nil (z:Value):TabV z (fun _=>none) (.map []):=⟨fun _=>rfl,fun _=>rfl⟩
theorem TabV.put {z:Value} {f:ByteArray→Option Value} {D:DataW Value} (h:TabV z f D) (hm:IsMap D) (s:ByteArray) (v:Value):TabV z (Mc f s v) (D.put (kOf s) (.held v)):=by
 refine ⟨fun t=>?_,fun t=>?_⟩
 ·by_cases e:t=s
  ·subst e
   rw [has_put_same hm (show WideAt.IsKeyLit (kOf _) from trivial) _];simp [Mc]
  ·rw [has_put_other (fun h=>e (La h)),h.1 t]
   simp [Mc,e]
 ·by_cases e:t=s
  ·subst e
   rw [atKey_put_same hm (show WideAt.IsKeyLit (kOf _) from trivial) _ _];simp [Mc]
  ·rw [atKey_put_other (fun h=>e (La h)),h.2 t]
   simp [Mc,e]
def MapV (w:World) (z:Value) (b n:Nat) (f:ByteArray→Option Value):Prop:=∃ D,w.ownsMap Tryz.prog 9 Hp b n D∧TabV z f D
theorem eK {H:Type} {P:Program} {k:TypeId} {R:Value→Option (DataW H×List MemPlace)} {w w':World} {b n:Nat} {D:DataW H} (h:w.ownsMap P k R b n D) (e:w'.heap[b]?=w.heap[b]?):w'.ownsMap P k R b n D:=by
 obtain ⟨es,clock,h1,h2,h3,h4⟩:=h;exact ⟨es,clock,e.trans h1,h2,h3,h4⟩
theorem MapV.lt {w:World} {z:Value} {b n:Nat} {f:ByteArray→Option Value} (h:MapV w z b n f):b<w.heap.size:=by
 obtain ⟨D,h1,_⟩:=h;exact h1.lt
theorem MapV.heap {w w':World} {z:Value} {b n:Nat} {f:ByteArray→Option Value} (h:MapV w z b n f) (e:w'.heap[b]?=w.heap[b]?):MapV w' z b n f:=by
 obtain ⟨D,h1,h2⟩:=h;exact ⟨D,eK h1 e,h2⟩
theorem MapV.below {w w':World} {z:Value} {b n:Nat} {f:ByteArray→Option Value} (h:MapV w z b n f) (hb:Below w.heap.size w w'):MapV w' z b n f:=h.heap (hb.block b h.lt)
theorem MapV.made (w:World) (z:Value):MapV (w.alloc (.map #[] 0)) z w.heap.size 0 (fun _=>none):=⟨_,World.ownsMap_made _ _ _ _,TabV.nil z⟩
theorem MapV.look {w:World} {z:Value} {b n:Nat} {f:ByteArray→Option Value} (h:MapV w z b n f) {mt et:TypeId} (hu:Tryz.prog.underlying mt=some (.map 9 et)) (hz:(zeroValue et).run Tryz.prog w=.ok z w) {s:ByteArray} (hs:s.size≤maxLen) :
  (Instr.lookup mt (.map (some b)) (.string s) false).run Tryz.prog w=.ok ((f s).getD z) w:=by
 obtain ⟨D,h1,h2⟩:=h;obtain ⟨v,ps,hrun,hv⟩:=h1.lookup Cx hu hz (show Hp z=some (.held z,[]) from rfl) (keyOf_string_mk Tryz.underlying9 hs);have h3:some (DataW.held v,([]:List MemPlace))=some (D.atKey (kOf s) (.held z),ps):=hv;rw [h2.2 s] at h3;have h4:DataW.held v=DataW.held ((f s).getD z):=congrArg Prod.fst (Option.some.inj h3);rw [hrun,DataW.held.inj h4]
theorem MapV.store {w:World} {z:Value} {b n:Nat} {f:ByteArray→Option Value} (h:MapV w z b n f) {mt et:TypeId} (hu:Tryz.prog.underlying mt=some (.map 9 et)) (hn:n<maxLen) {s:ByteArray} (hs:s.size≤maxLen) (v:Value) :
  ∃ w',(Instr.mapUpdate mt (.map (some b)) (.string s) v).run Tryz.prog w=.ok () w'∧MapV w' z b (n+1) (Mc f s v)∧w.grownBy w' (some b):=by
 obtain ⟨D,h1,h2⟩:=h;obtain ⟨w',hrun,hown,hturn⟩:=h1.store Cx hu hn (keyOf_string_mk Tryz.underlying9 hs) (show Hp v=some (.held v,[]) from rfl);exact ⟨w',hrun,⟨_,hown,h2.put h1.isMap s v⟩,hturn.grown⟩
theorem MapV.keys {w:World} {z:Value} {b n:Nat} {f:ByteArray→Option Value} (h:MapV w z b n f) {ns:List ByteArray} (ha:Asc id ns) (hf:∀ s,s∈ns↔(f s).isSome=true) :
  ∃ D,w.ownsMap Tryz.prog 9 Hp b n D∧(nmL ns).Perm (strKeys D):=by
 obtain ⟨D,h1,h2⟩:=h;refine ⟨D,h1,bQ h1 Cx Tryz.underlying9 ha (fun x=>?_)⟩;have h3:=h2.1 ⟨⟨x⟩⟩;rw [show kOf ⟨⟨x⟩⟩=.string x from rfl] at h3;rw [h3,← hf];unfold nmL;simp only [List.mem_map];constructor
 ·rintro ⟨a,ha,e⟩
  have:a=⟨⟨x⟩⟩:=Mq (by rw [e,ByteArray.toList_eq]);rw [← this];exact ha
 ·intro hm
  exact ⟨_,hm,by rw [ByteArray.toList_eq]⟩
def Fr (c:Cpy) (n:Cnt):Cnt:=⟨c.service,n.n+1,if c.apart=0 then n.apart else n.apart+1,if c.apart=2 then n.zone+1 else n.zone⟩
def Dm:Cnt:=⟨⟨#[]⟩,0,0,0⟩
def ofC (xs:List Cnt) (s:ByteArray):Cnt:=(xs.find? (fun x=>decide (x.service=s))).getD Dm
def Bh (xs:List Cnt) (c:Cpy):List Cnt:=Fy Cnt.service xs (Fr c (ofC xs c.service))
def Ue (cs:List Cpy):List Cnt:=cs.foldl Bh []
def vCn (x:Cnt):Value:=.agg #[.string x.service,.int .i64 x.n,.int .i64 x.apart,.int .i64 x.zone]
def fCn (xs:List Cnt):ByteArray→Option Value:=fun s=>(xs.find? (fun x=>decide (x.service=s))).map vCn
theorem Uo {xs:List Cnt} (h:Asc Cnt.service xs) (c:Cpy):Asc Cnt.service (Bh xs c):=h.put
theorem aM (cs:List Cpy) (c:Cpy):Ue (cs++[c])=Bh (Ue cs) c:=by unfold Ue;rw [List.foldl_append];rfl
theorem Ri:∀ (cs:List Cpy) (xs:List Cnt),Asc Cnt.service xs→Asc Cnt.service (cs.foldl Bh xs)
 | [],_,h=>h
 | c::r,_,h=>Ri r _ (Uo h c)
theorem eX (cs:List Cpy):Asc Cnt.service (Ue cs):=Ri cs [] List.Pairwise.nil
theorem Tw {xs:List Cnt} (h:Asc Cnt.service xs) (c:Cpy):fCn (Bh xs c)=Mc (fCn xs) c.service (vCn (Fr c (ofC xs c.service))):=by
 funext s;have hA:=Uo h c;unfold fCn Mc;by_cases e:s=c.service
 ·subst e
  rw [if_pos rfl];have:=hA.find (x:=Fr c (ofC xs c.service)) ((Gi h).2 (.inl rfl));rw [show (Fr c (ofC xs c.service)).service=c.service from rfl] at this;rw [this];rfl
 ·rw [if_neg e]
  congr 1
  cases h1:xs.find? (fun x=>decide (x.service=s)) with
  | none =>
   refine List.find?_eq_none.2 (fun y hy=>?_);rcases (Gi h).1 hy with rfl | ⟨hm,_⟩
   ·exact fun e2=>e (of_decide_eq_true e2).symm
   ·exact List.find?_eq_none.1 h1 y hm
  | some y =>
   have hy:=List.mem_of_find?_eq_some h1;have hs:y.service=s:=by have h9:=List.find?_some h1;exact of_decide_eq_true h9
   subst hs;exact hA.find ((Gi h).2 (.inr ⟨hy,e⟩))
theorem iX (xs:List Cnt) (s:ByteArray):(fCn xs s).getD (vCn Dm)=vCn (ofC xs s):=by
 unfold fCn ofC;cases xs.find? (fun x=>decide (x.service=s)) <;> rfl
theorem eC {xs:List Cnt} (s:ByteArray):s∈xs.map Cnt.service↔(fCn xs s).isSome=true:=by
 unfold fCn;rw [Option.isSome_map,List.find?_isSome,List.mem_map];constructor
 ·rintro ⟨x,h1,h2⟩;exact ⟨x,h1,decide_eq_true h2⟩
 ·rintro ⟨x,h1,h2⟩;exact ⟨x,h1,of_decide_eq_true h2⟩
theorem mG:fCn []=fun _=>none:=rfl
def Jt (m:Nat) (x:Cnt):Prop:=x.service.size≤20∧0≤x.n∧x.n≤m∧0≤x.apart∧x.apart≤m∧0≤x.zone∧x.zone≤m
theorem Qo {xs:List Cnt} {m:Nat} (h:∀ x∈xs,Jt m x) (s:ByteArray):Jt m (ofC xs s):=by
 unfold ofC
 cases e:xs.find? (fun x=>decide (x.service=s)) with
 | none=>simp [Jt,Dm];exact Nat.zero_le _
 | some y=>exact h y (List.mem_of_find?_eq_some e)
theorem Zb {xs:List Cnt} {m:Nat} (h:∀ x∈xs,Jt m x) {c:Cpy} (hc:c.service.size≤20):∀ x∈Bh xs c,Jt (m+1) x:=by
 intro x hx;rcases Vo hx with rfl | hx
 ·obtain ⟨_,h1,h2,h3,h4,h5,h6⟩:=Qo h c.service
  refine ⟨hc,?_⟩;simp only [Fr];refine ⟨by omega,by omega,?_,?_,?_,?_⟩ <;> split <;> omega
 ·obtain ⟨h0,h1,h2,h3,h4,h5,h6⟩:=h x hx
  exact ⟨h0,h1,by omega,h3,by omega,h5,by omega⟩
theorem Wv:∀ (cs:List Cpy),(∀ c∈cs,c.service.size≤20)→∀ x∈Ue cs,Jt cs.length x:=by
 intro cs
 suffices hk:∀ (cs:List Cpy) (xs:List Cnt) (m:Nat),(∀ c∈cs,c.service.size≤20)→(∀ x∈xs,Jt m x)→∀ x∈cs.foldl Bh xs,Jt (m+cs.length) x by
  intro h x hx;have:=hk cs [] 0 h (fun x hx=>by cases hx) x hx
  rwa [Nat.zero_add] at this
 intro cs
 induction cs with
 | nil=>exact fun xs m _ h=>h
 | cons c r ih =>
  intro xs m hc h x hx;have:=ih (Bh xs c) (m+1) (fun c hm=>hc c (List.mem_cons_of_mem _ hm)) (Zb h (hc c List.mem_cons_self)) x hx;rw [List.length_cons,show m+(r.length+1)=m+1+r.length by omega];exact this
theorem Qk:∀ (cs:List Cpy) (xs:List Cnt),(cs.foldl Bh xs).length≤xs.length+cs.length
 | [],xs=>Nat.le_refl _
 | c::r,xs=>by
  have h1:=Qk r (Bh xs c);have h2:=Wd Cnt.service xs (Fr c (ofC xs c.service));simp only [List.foldl_cons,List.length_cons];unfold Bh at *;omega
theorem dT (cs:List Cpy):(Ue cs).length≤cs.length:=by have:=Qk cs [];unfold Ue;simpa using this
end Go.Proofs.YtpeajnkkdioflaaGreat
namespace Go.Proofs.YtpeajnkkdioflaaGreat
open Go.RowKit
structure Znr where
 name:ByteArray
 counts:List Cnt
def Wb (x:Znr):Nat:=x.name.size+(wS Vx x.counts)
def ZnrC:Ed Znr:=fun lo w f x=>∃ (a1:Option Addr) (c1:Nat),f 0=some (.string x.name)∧f 1=some (.slice a1 x.counts.length c1)∧x.name.size≤maxLen∧SliceC CntC 4 lo w a1 x.counts
theorem ZnrC.holds:Ep ZnrC 2:=by
 rintro lo lo' w w' f g x h k hl ⟨a1,c1,q0,q1,z0,n1⟩;exact ⟨a1,c1,(h 0 (by omega)).trans q0,(h 1 (by omega)).trans q1,z0,n1.keep CntC.holds k hl⟩
theorem iP:(Tryz.prog.info? 95).map (·.size)=some 2:=by kernel_rfl
theorem cU (x:Znr) (a1:Option Addr) (c1:Nat) (a1p:Option Addr) (c1p:Nat) (lo lo':Nat) (w:World) (n1:SliceC CntC 4 lo w a1 x.counts) (p1:SliceC CntC 4 lo' w a1p x.counts) (hsm:Wb x≤1048576) :
  Calls Tryz.prog 65 #[.agg #[.string x.name,.slice a1 x.counts.length c1],.agg #[.string x.name,.slice a1p x.counts.length c1p]] w fun e w'=>e=.returned (.bool true)∧Below w.heap.size w w':=by
 have N1:Hid (SliceC CntC 4 lo w a1 x.counts):=n1;have P1:Hid (SliceC CntC 4 lo' w a1p x.counts):=p1;have M1:wS Vx x.counts≤1048576:=by unfold Wb at hsm;omega
 clear hsm n1 p1;go_enter Tryz.func65,Tryz.ntmps65;go_wp2_with fail;refine (Kj x.counts a1 a1p c1 c1p lo lo' _ (N1.out.below CntC.holds (B:=w.heap.size) (by go_grown) nL) (P1.out.below CntC.holds (B:=w.heap.size) (by go_grown) nL) M1).mono ?_;rintro e w1 ⟨rfl,hb1⟩;have hB1:Below w.heap.size w w1:=(show Below w.heap.size w _ by go_grown).trans (hb1.mono (by simp;omega));have hs1:w.heap.size+1<w1.heap.size:=by have:=hb1.size;simp at this;omega
 clear hb1;go_wp2_with fail;go_ret;exact ⟨rfl,hB1⟩
theorem eO:(Tryz.prog.info? 95).map (fun i=>(i.zero,i.size,i.bytes))=some (some (.agg #[.string ⟨#[]⟩,.slice none 0 0]),2,40):=by kernel_rfl
theorem Ya (xs:List Znr) (a a':Option Addr) (cap cap' lo lo':Nat) (w:World) (hg:SliceC ZnrC 2 lo w a xs) (hh:SliceC ZnrC 2 lo' w a' xs) (hsm:wS Wb xs≤1048576) :
  Calls Tryz.prog 25 #[.slice a xs.length cap,.slice a' xs.length cap'] w fun e w'=>e=.returned (.bool true)∧Below w.heap.size w w':=by
 have hlen:xs.length≤1048576:=Nat.le_trans Df hsm;have HG:Hid (SliceC ZnrC 2 lo w a xs):=hg;have HH:Hid (SliceC ZnrC 2 lo' w a' xs):=hh;have HSM:Hid (wS Wb xs≤1048576):=hsm;clear hg hh hsm;go_enter Tryz.func25,Tryz.ntmps25;go_wp2_with fail;go_loopw [5] (fun i wr=>∃ (k:Nat),k≤xs.length∧i=.int .i64 k∧Below w.heap.size w wr) (fun i _=>xs.length - (intOf i).toNat)
 case atStart=>exact ⟨0,Nat.zero_le _,rfl,Below.refl _ _⟩
 case round =>
  obtain ⟨k,hk,rfl,hbel⟩:=hrel;by_cases hlt:k<xs.length
  ·obtain ⟨x,hx⟩:∃ x,xs[k]?=some x:=⟨xs[k],List.getElem?_eq_getElem hlt⟩
   obtain ⟨b,o,rfl,_,_,hc⟩:=(HG.out.below ZnrC.holds hbel nL).at hx;obtain ⟨b',o',rfl,_,_,hc'⟩:=(HH.out.below ZnrC.holds hbel nL).at hx;obtain ⟨a1,c1,q0,q1,_,n1⟩:=hc;obtain ⟨a1p,c1p,r0,r1,_,p1⟩:=hc';simp only [Nat.add_zero] at q0 q1 r0 r1;have hwx:Wb x≤1048576:=Nat.le_trans (Fo (List.mem_of_getElem? hx)) HSM.out;have k0:=cell_regrown q0;have l0:=cell_regrown r0;have k1:=cell_regrown q1;have l1:=cell_regrown r1;have cE:∀ d os,Calls Tryz.prog 65 #[.agg #[.string x.name,.slice a1 x.counts.length c1],.agg #[.string x.name,.slice a1p x.counts.length c1p]] (Sort.grow (redrawn wr d) os) fun e w''=>e=.returned (.bool true)∧∃ p:Regrown,w''=Sort.grow (redrawn wr p.d) p.os:=fun d os=>Calls.regrown_of (cU x a1 c1 a1p c1p lo lo' _ (n1.below CntC.holds (below_regrown wr d os) nL) (p1.below CntC.holds (below_regrown wr d os) nL) hwx)
   have i0:(0:Int)≤(k:Int):=by omega
   have i1:(k:Int)<(xs.length:Int):=by omega
   clear hx q0 q1 r0 r1 n1 p1 hwx;go_wp2_with fail;refine wp_region_quiet_below (by kernel_rfl) (by kernel_rfl) ?_
   repeat (quiet_step (first | exact cE _ _))
   refine wpQuiet_nil ?_;intro _ hw';obtain ⟨⟨dq,osq⟩,hw''⟩:=hw';have hB:=hbel.trans ((below_regrown wr dq osq).mono hbel.size);simp only [] at hw'';rw [← hw''] at hB;clear hw'' cE k0 l0 k1 l1;go_wp2_with fail;go_roundw
   case rel=>exact ⟨k+1,by omega,by go_num,hB⟩
   case measure=>simp [intOf];omega
  ·go_wp2_with fail
   go_ret;exact ⟨rfl,hbel⟩
end Go.Proofs.YtpeajnkkdioflaaGreat
namespace Go.Proofs.YtpeajnkkdioflaaGreat
open Go.RowKit Go.WideMaps Go.Maps
def Aq (cs:List Cpy) (s:ByteArray) (but:Int):Nat→Int×Int×Int
 | 0=>(0,0,0)
 | k+1=>match cs[k]? with
  | some c=>if c.at_=s∧(k:Int)≠but then (wrap64 ((Aq cs s but k).1+1),wrap64 ((Aq cs s but k).2.1+c.room),wrap64 ((Aq cs s but k).2.2+c.hold)) else Aq cs s but k
  | none=>Aq cs s but k
theorem Kx {cs:List Cpy} {s:ByteArray} {but:Int} {k:Nat} {c:Cpy} (hk:cs[k]?=some c) (h1:c.at_=s) (h2:(k:Int)≠but):Aq cs s but (k+1)=(wrap64 ((Aq cs s but k).1+1),wrap64 ((Aq cs s but k).2.1+c.room),wrap64 ((Aq cs s but k).2.2+c.hold)):=by
 conv=>lhs;unfold Aq
 rw [hk];simp [h1,h2]
theorem He {cs:List Cpy} {s:ByteArray} {but:Int} {k:Nat} {c:Cpy} (hk:cs[k]?=some c) (h:¬ (c.at_=s∧(k:Int)≠but)):Aq cs s but (k+1)=Aq cs s but k:=by
 conv=>lhs;unfold Aq
 rw [hk];simp only [if_neg h]
theorem Gj {a b:ByteArray} (h:¬ a=b):(a.toList == b.toList)=false:=by
 rw [ByteArray.toList_eq,ByteArray.toList_eq]
 have:¬ a.data.toList=b.data.toList:=fun e=>h (by
  cases a with | mk x=>cases b with | mk y=>cases x;cases y;simp at e;simp [e])
 simpa using this
theorem Jb {a b:ByteArray} (h:a=b):(a.toList == b.toList)=true:=by subst h;simp
def Ez (bs:List Brt) (s:ByteArray):Int:=match bs.findIdx? (fun b=>decide (b.name=s)) with
 | some k=>k
 | none=>-1
theorem aC {bs:List Brt} {s:ByteArray} {k:Nat} {b:Brt} (hk:bs[k]?=some b) (h:b.name=s) (ho:∀ j b,j<k→bs[j]?=some b→b.name≠s):Ez bs s=k:=by
 have:bs.findIdx? (fun b=>decide (b.name=s))=some k:=by
  rw [List.findIdx?_eq_some_iff_getElem];have hlt:=Ad hk;rw [List.getElem?_eq_getElem hlt] at hk;injection hk with hk;refine ⟨hlt,by simp [hk,h],fun j hj=>?_⟩;have:=ho j bs[j] hj (List.getElem?_eq_getElem (by omega));simpa using this
 simp [Ez,this]
theorem bP {bs:List Brt} {s:ByteArray} (ho:∀ j b,j<bs.length→bs[j]?=some b→b.name≠s):Ez bs s=-1:=by
 have:bs.findIdx? (fun b=>decide (b.name=s))=none:=by
  rw [List.findIdx?_eq_none_iff];intro b hb;obtain ⟨j,hj⟩:=List.getElem?_of_mem hb;simpa using ho j b (Ad hj) hj
 simp [Ez,this]
theorem Iq (x:Flt) (a1:Option Addr) (c1:Nat) (a2:Option Addr) (c2:Nat) (a3:Option Addr) (c3:Nat) (lo:Nat) (s:ByteArray) (w:World) (n1:SliceC BrtC 6 lo w a1 x.berths) (hl:x.berths.length≤1048576) :
  Calls Tryz.prog 46 #[.agg #[.bool x.pack,.slice a1 x.berths.length c1,.slice a2 x.services.length c2,.slice a3 x.copies.length c3],.string s] w fun e w'=>e=.returned (.int .i64 (Ez x.berths s))∧Below w.heap.size w w':=by
 have HI:Hid (SliceC BrtC 6 lo w a1 x.berths):=n1;clear n1;generalize hbs:x.berths=bs at *;clear hbs;go_enter Tryz.func46,Tryz.ntmps46;go_wp2_with fail;go_loopw [5] (fun i wr=>∃ k:Nat,k≤bs.length∧i=.int .i64 k∧wr.cell? ⟨w.heap.size,1,none⟩=some (.slice a1 bs.length c1)∧Hid (∀ j b,j<k→bs[j]?=some b→b.name≠s)∧Below w.heap.size w wr) (fun i _=>bs.length - (intOf i).toNat)
 case atStart=>exact ⟨0,Nat.zero_le _,rfl,by simp,fun j b h=>by omega,by go_grown⟩
 case round =>
  obtain ⟨k,hk,rfl,hcell,ho,hbel⟩:=hrel;by_cases hlt:k<bs.length
  ·obtain ⟨x,hx⟩:∃ x,bs[k]?=some x:=⟨bs[k],List.getElem?_eq_getElem hlt⟩
   obtain ⟨b,o,rfl,_,_,hc⟩:=(HI.out.below BrtC.holds hbel nL).at hx;obtain ⟨a9,c9,q0,q1,q2,q3,q4,q5,z0,z1,n9⟩:=hc;simp only [Nat.add_zero] at q0;have HX:Hid (bs[k]?=some x):=hx;clear hx q1 q2 q3 q4 q5 z0 z1 n9;by_cases h:x.name=s
   ·have HZ:Hid (Ez bs s=k):=aC HX.out h ho.out
    have ht:=Jb h;clear h;go_wp2_with fail;go_ret;exact ⟨Av HZ.out.symm,hbel⟩
   ·have ht:=Gj h
    go_wp2_with fail;go_roundw
    case rel =>
     refine ⟨k+1,by omega,by go_num,hcell,?_,hbel⟩;intro j y hj hy;by_cases e:j=k
     ·subst e
      rw [HX.out] at hy;cases hy
      exact h
     ·exact ho.out j y (by omega) hy
    case measure=>simp [intOf];omega
  ·have hke:k=bs.length:=by omega
   have HZ:Hid (Ez bs s=-1):=bP (hke▸ho.out);go_wp2_with fail;go_ret;exact ⟨Av HZ.out.symm,hbel⟩
theorem Nq:(Tryz.prog.info? 193).map (·.size)=some 3:=by kernel_rfl
def UseAt (w:World) (g:Nat) (u:Int×Int×Int):Prop :=
 w.rangeAt g 0 [.int .i64 u.1,.int .i64 u.2.1,.int .i64 u.2.2]∧w.there g 0 3
theorem UseAt.below {w w':World} {g B:Nat} {u:Int×Int×Int} (h:UseAt w g u) (hb:Below B w w') (hB:g<B):UseAt w' g u:=by
 refine ⟨fun j v hj=>?_,fun j hj=>?_⟩
 ·rw [hb.cell (p:=⟨g,_,none⟩) hB];exact h.1 j v hj
 ·rw [hb.cell (p:=⟨g,_,none⟩) hB,hb.frozen (p:=⟨g,_,none⟩) hB];exact h.2 j hj
theorem UseAt.cells {w:World} {g:Nat} {u:Int×Int×Int} (h:UseAt w g u):w.cell? ⟨g,0,none⟩=some (.int .i64 u.1)∧w.cell? ⟨g,1,none⟩=some (.int .i64 u.2.1)∧w.cell? ⟨g,2,none⟩=some (.int .i64 u.2.2) :=
 ⟨h.1 0 _ rfl,h.1 1 _ rfl,h.1 2 _ rfl⟩
theorem UseAt.set {w:World} {g:Nat} {u:Int×Int×Int} (h:UseAt w g u) (v:Int×Int×Int):UseAt (w.setCells g 0 [.int .i64 v.1,.int .i64 v.2.1,.int .i64 v.2.2]) g v :=
 ⟨World.rangeAt_setCells_same _ _ _ _ h.2,World.there_setCells h.2 _ _ _⟩
theorem dA (p:Nat) (cs:List Cpy) (a3:Option Addr) (c3 lo:Nat) (s:ByteArray) (but:Int) (w:World) (hp:w.cell? ⟨p,3,none⟩=some (.slice a3 cs.length c3)) (n3:SliceC CpyC 12 lo w a3 cs) (hl:cs.length≤1048576) :
  Calls Tryz.prog 127 #[.pointer (some ⟨p,0,none⟩),.string s,.int .i64 but] w fun e w'=>e=.returned (.agg #[.int .i64 (Aq cs s but cs.length).1,.int .i64 (Aq cs s but cs.length).2.1,.int .i64 (Aq cs s but cs.length).2.2])∧Below w.heap.size w w':=by
 have HI:Hid (SliceC CpyC 12 lo w a3 cs):=n3;have hpl:=block_lt_of_cell hp;clear n3;go_enter Tryz.func127,Tryz.ntmps127;go_wp2_with fail;go_loopw [16] (fun i wr=>∃ k:Nat,k≤cs.length∧i=.int .i64 k∧w.heap.size+1<wr.heap.size∧Hid (UseAt wr (w.heap.size+1) (Aq cs s but k))∧Hid (wr.there w.heap.size 0 3)∧Below w.heap.size w wr) (fun i _=>cs.length - (intOf i).toNat)
 case atStart =>
  refine ⟨0,Nat.zero_le _,rfl,by simp,⟨?_,?_⟩,?_,by go_grown⟩
  ·exact Aa (by simp [Aq]) (Aa (by simp [Aq]) (Aa (by simp [Aq]) (Aj _ _ _)))
  ·exact An (by simp;rfl) (by simp) (An (by simp;rfl) (by simp) (An (by simp;rfl) (by simp) (Ek _ _ _)))
  ·exact An (by simp;rfl) (by simp) (An (by simp;rfl) (by simp) (An (by simp;rfl) (by simp) (Ek _ _ _)))
 case round =>
  obtain ⟨k,hk,rfl,hsz,hu,ht,hbel⟩:=hrel;by_cases hlt:k<cs.length
  ·obtain ⟨x,hx⟩:∃ x,cs[k]?=some x:=⟨cs[k],List.getElem?_eq_getElem hlt⟩
   obtain ⟨b,o,rfl,_,_,hc⟩:=(HI.out.below CpyC.holds hbel nL).at hx;obtain ⟨a7,c7,q0,q1,q2,q3,q4,q5,q6,q7,q8,q9,q10,q11,_,_,_,_,_,_,_⟩:=hc;simp only [Nat.add_zero] at q0 q1 q2 q3 q4 q5 q6 q7 q8 q9 q10 q11;have HRA:Hid (wr.rangeAt b (o+k*12) [.string x.name,.string x.service,.int .i64 x.rank,.int .i64 x.born,.int .i64 x.room,.int .i64 x.hold,.string x.select,.slice a7 x.likes.length c7,.int .i64 x.apart,.string x.near,.string x.fixed,.string x.at_]):=Aa q0 (Aa q1 (Aa q2 (Aa q3 (Aa q4 (Aa q5 (Aa q6 (Aa q7 (Aa q8 (Aa q9 (Aa q10 (Aa q11 (Aj _ _ _))))))))))));have HX:Hid (cs[k]?=some x):=hx;have HB:Hid (Below w.heap.size w wr):=hbel;clear hx q0 q1 q2 q3 q4 q5 q6 q7 q8 q9 q10 q11 hbel;go_upto_region 5 with (first | (refine wpList_load_mid rfl 83 _ rfl b (o+k*12) (by first | rfl | (simp [go_sem];done)) [.string x.name,.string x.service,.int .i64 x.rank,.int .i64 x.born,.int .i64 x.room,.int .i64 x.hold,.string x.select,.slice a7 x.likes.length c7,.int .i64 x.apart,.string x.near,.string x.fixed,.string x.at_] _ HRA.out Tryz.underlying83 rfl Ca ?_));have hal:Below wr.heap.size wr (wr.alloc (Obj.cells #[.string x.name,.string x.service,.int .i64 x.rank,.int .i64 x.born,.int .i64 x.room,.int .i64 x.hold,.string x.select,.slice a7 x.likes.length c7,.int .i64 x.apart,.string x.near,.string x.fixed,.string x.at_] 83)):=(Below.refl _ _).alloc nL _;have e4:(wr.alloc (Obj.cells #[.string x.name,.string x.service,.int .i64 x.rank,.int .i64 x.born,.int .i64 x.room,.int .i64 x.hold,.string x.select,.slice a7 x.likes.length c7,.int .i64 x.apart,.string x.near,.string x.fixed,.string x.at_] 83)).cell? ⟨wr.heap.size,4,none⟩=some (.int .i64 x.room):=by simp
   have e5:(wr.alloc (Obj.cells #[.string x.name,.string x.service,.int .i64 x.rank,.int .i64 x.born,.int .i64 x.room,.int .i64 x.hold,.string x.select,.slice a7 x.likes.length c7,.int .i64 x.apart,.string x.near,.string x.fixed,.string x.at_] 83)).cell? ⟨wr.heap.size,5,none⟩=some (.int .i64 x.hold):=by simp
   have e11:(wr.alloc (Obj.cells #[.string x.name,.string x.service,.int .i64 x.rank,.int .i64 x.born,.int .i64 x.room,.int .i64 x.hold,.string x.select,.slice a7 x.likes.length c7,.int .i64 x.apart,.string x.near,.string x.fixed,.string x.at_] 83)).cell? ⟨wr.heap.size,11,none⟩=some (.string x.at_):=by simp
   have HU4:Hid (UseAt (wr.alloc (Obj.cells #[.string x.name,.string x.service,.int .i64 x.rank,.int .i64 x.born,.int .i64 x.room,.int .i64 x.hold,.string x.select,.slice a7 x.likes.length c7,.int .i64 x.apart,.string x.near,.string x.fixed,.string x.at_] 83)) (w.heap.size+1) (Aq cs s but k)):=hu.out.below hal (by omega);have HT4:Hid ((wr.alloc (Obj.cells #[.string x.name,.string x.service,.int .i64 x.rank,.int .i64 x.born,.int .i64 x.room,.int .i64 x.hold,.string x.select,.slice a7 x.likes.length c7,.int .i64 x.apart,.string x.near,.string x.fixed,.string x.at_] 83)).there w.heap.size 0 3):=World.there_alloc ht.out _;have HB4:Hid (Below w.heap.size w (wr.alloc (Obj.cells #[.string x.name,.string x.service,.int .i64 x.rank,.int .i64 x.born,.int .i64 x.room,.int .i64 x.hold,.string x.select,.slice a7 x.likes.length c7,.int .i64 x.apart,.string x.near,.string x.fixed,.string x.at_] 83))):=HB.out.alloc (by omega) _;have hs4:w.heap.size+1<(wr.alloc (Obj.cells #[.string x.name,.string x.service,.int .i64 x.rank,.int .i64 x.born,.int .i64 x.room,.int .i64 x.hold,.string x.select,.slice a7 x.likes.length c7,.int .i64 x.apart,.string x.near,.string x.fixed,.string x.at_] 83)).heap.size:=by simp;omega
   clear hal hu ht HB;generalize wr.alloc (Obj.cells #[.string x.name,.string x.service,.int .i64 x.rank,.int .i64 x.born,.int .i64 x.room,.int .i64 x.hold,.string x.select,.slice a7 x.likes.length c7,.int .i64 x.apart,.string x.near,.string x.fixed,.string x.at_] 83)=w4 at *;obtain ⟨u0,u1,u2⟩:=HU4.out.cells;by_cases h:x.at_=s∧(k:Int)≠but
   ·have HV:Hid (Aq cs s but (k+1)=_):=Kx HX.out h.1 h.2
    have hte:=Jb h.1;have hkb:=h.2;obtain ⟨w5,hw5⟩:∃ w',w'=w4.setCells (w.heap.size+1) 0 [.int .i64 (wrap64 ((Aq cs s but k).1+1)),.int .i64 (wrap64 ((Aq cs s but k).2.1+x.room)),.int .i64 (wrap64 ((Aq cs s but k).2.2+x.hold))]:=⟨_,rfl⟩;have HW5:Hid (w5=w4.setCells (w.heap.size+1) 0 [.int .i64 (wrap64 ((Aq cs s but k).1+1)),.int .i64 (wrap64 ((Aq cs s but k).2.1+x.room)),.int .i64 (wrap64 ((Aq cs s but k).2.2+x.hold))]):=hw5;have HU5:Hid (UseAt w5 (w.heap.size+1) (Aq cs s but (k+1))):=by rw [hw5,HV.out];exact HU4.out.set (wrap64 ((Aq cs s but k).1+1),wrap64 ((Aq cs s but k).2.1+x.room),wrap64 ((Aq cs s but k).2.2+x.hold))
    have HT5:Hid (w5.there w.heap.size 0 3):=by rw [hw5];exact World.there_setCells HT4.out _ _ _
    have HB5:Hid (Below w.heap.size w w5):=by rw [hw5];exact Ai (by omega) _ _ _ HB4.out
    have hs5:w.heap.size+1<w5.heap.size:=by rw [hw5,Cn];exact hs4
    have HTU:Hid (w4.there (w.heap.size+1) 0 3):=HU4.out.2;clear h hw5 HV HU4 HT4 HB4;generalize Aq cs s but k=U at *;go_wp2_with (first | (refine Ap rfl 193 _ _ rfl (w.heap.size+1) 0 #[.int .i64 (wrap64 (U.1+1)),.int .i64 (wrap64 (U.2.1+x.room)),.int .i64 (wrap64 (U.2.2+x.hold))] rfl rfl HTU.out Nq (by simp [Value.oneCell']) w5 HW5.out ?_));go_roundw
    case rel=>exact ⟨k+1,by omega,by go_num,hs5,HU5,HT5,HB5.out⟩
    case measure=>simp [intOf];omega
   ·have HV:Hid (Aq cs s but (k+1)=Aq cs s but k):=He HX.out h
    by_cases h1:x.at_=s
    ·have hte:=Jb h1
     have hkb:(k:Int)=but:=by
      by_cases e:(k:Int)=but
      ·exact e
      ·exact absurd ⟨h1,e⟩ h
     clear h h1;go_wp2_with fail;go_roundw
     case rel=>exact ⟨k+1,by omega,by go_num,hs4,by rw [HV.out];exact HU4,HT4,HB4.out⟩
     case measure=>simp [intOf];omega
    ·have hte:=Gj h1
     clear h;go_wp2_with fail;go_roundw
     case rel=>exact ⟨k+1,by omega,by go_num,hs4,by rw [HV.out];exact HU4,HT4,HB4.out⟩
     case measure=>simp [intOf];omega
  ·have hke:k=cs.length:=by omega
   subst hke;generalize hU:Aq cs s but cs.length=U at *;have HUU:Hid (Aq cs s but cs.length=U):=hU;clear hU;have HRU:Hid (wr.rangeAt (w.heap.size+1) 0 [.int .i64 U.1,.int .i64 U.2.1,.int .i64 U.2.2]):=hu.out.1;obtain ⟨w5,hw5⟩:∃ w',w'=wr.setCells w.heap.size 0 [.int .i64 U.1,.int .i64 U.2.1,.int .i64 U.2.2]:=⟨_,rfl⟩;have HW5:Hid (w5=wr.setCells w.heap.size 0 [.int .i64 U.1,.int .i64 U.2.1,.int .i64 U.2.2]):=hw5;have HR5:Hid (w5.rangeAt w.heap.size 0 [.int .i64 U.1,.int .i64 U.2.1,.int .i64 U.2.2]):=by rw [hw5];exact World.rangeAt_setCells_same _ _ _ _ ht.out
   have HB5:Hid (Below w.heap.size w w5):=by rw [hw5];exact Ai nL _ _ _ hbel
   clear hw5 hbel;go_wp2_with (first | (refine wpList_load_mid rfl 193 _ rfl (w.heap.size+1) 0 rfl [.int .i64 U.1,.int .i64 U.2.1,.int .i64 U.2.2] _ HRU.out Tryz.underlying193 rfl Nq ?_) | (refine Ap rfl 193 _ _ rfl w.heap.size 0 #[.int .i64 U.1,.int .i64 U.2.1,.int .i64 U.2.2] rfl rfl ht.out Nq (by simp [Value.oneCell']) w5 HW5.out ?_));exact bodyPost_ret (Aw rfl _ _ w.heap.size [.int .i64 U.1,.int .i64 U.2.1,.int .i64 U.2.2] _ rfl HR5.out Tryz.underlying193 rfl Nq) rfl ⟨by rw [HUU.out],HB5.out⟩
end Go.Proofs.YtpeajnkkdioflaaGreat
namespace Go.Proofs.YtpeajnkkdioflaaGreat
open Go.RowKit
def Gz (bs:List Brt) (s:ByteArray):ByteArray:=if Ez bs s<0 then ⟨#[]⟩ else ((bs[(Ez bs s).toNat]?).map (·.zone)).getD ⟨#[]⟩
theorem Vz {a b:ByteArray} (h:a=b):Ending.returned (.string a)=.returned (.string b):=by rw [h]
theorem Yz (bs:List Brt) (s:ByteArray):-1≤Ez bs s∧Ez bs s<bs.length:=by
 unfold Ez
 split
 ·rename_i i h
  have:=(List.findIdx?_eq_some_iff_findIdx_eq.1 h).1;omega
 ·omega
theorem Yr (x:Flt) (a1:Option Addr) (c1:Nat) (a2:Option Addr) (c2:Nat) (a3:Option Addr) (c3:Nat) (lo:Nat) (s:ByteArray) (w:World) (n1:SliceC BrtC 6 lo w a1 x.berths) (hl:x.berths.length≤1048576) :
  Calls Tryz.prog 52 #[.agg #[.bool x.pack,.slice a1 x.berths.length c1,.slice a2 x.services.length c2,.slice a3 x.copies.length c3],.string s] w fun e w'=>e=.returned (.string (Gz x.berths s))∧Below w.heap.size w w':=by
 have HI:Hid (SliceC BrtC 6 lo w a1 x.berths):=n1;clear n1;go_enter Tryz.func52,Tryz.ntmps52;go_wp2_with fail;have hal:Below w.heap.size w (w.alloc (Obj.cells #[.bool x.pack,.slice a1 x.berths.length c1,.slice a2 x.services.length c2,.slice a3 x.copies.length c3] 38)):=(Below.refl _ _).alloc nL _;refine (Iq x a1 c1 a2 c2 a3 c3 lo s _ (HI.out.below BrtC.holds hal nL) hl).mono ?_;rintro e w1 ⟨rfl,hb1⟩;have e1:w1.cell? ⟨w.heap.size,1,none⟩=some (.slice a1 x.berths.length c1):=(hb1.cell (p:=⟨w.heap.size,1,none⟩) (by simp)).trans (by simp);have HB1:Hid (Below w.heap.size w w1):=hal.trans (hb1.mono hal.size);have HZ:Hid (Gz x.berths s=if Ez x.berths s<0 then ⟨#[]⟩ else ((x.berths[(Ez x.berths s).toNat]?).map (·.zone)).getD ⟨#[]⟩):=rfl;have hbd:=Yz x.berths s;clear hb1 hal;generalize Ez x.berths s=I at *;by_cases h0:I<0
 ·rw [if_pos h0] at HZ
  go_wp2_with fail;go_ret;exact ⟨Vz HZ.out.symm,HB1.out⟩
 ·rw [if_neg h0] at HZ
  obtain ⟨k,rfl⟩:∃ k:Nat,I=k:=⟨I.toNat,by omega⟩;have hk:k<x.berths.length:=by omega
  obtain ⟨b,hb⟩:∃ b,x.berths[k]?=some b:=⟨x.berths[k],List.getElem?_eq_getElem hk⟩;obtain ⟨bb,o,rfl,_,_,hc⟩:=(HI.out.below BrtC.holds HB1.out nL).at hb;obtain ⟨a9,c9,q0,q1,_,_,_,_,_,_,_⟩:=hc;have HV:Hid (Gz x.berths s=b.zone):=by show _=_;rw [HZ.out,Int.toNat_natCast,hb];rfl
  clear hb q0 HZ;go_wp2_with fail;go_ret;exact ⟨Vz HV.out.symm,HB1.out⟩
end Go.Proofs.YtpeajnkkdioflaaGreat
