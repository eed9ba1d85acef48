import Derived.Test.YtkiloaiffopllaaGreatJ27
set_option maxHeartbeats 4000000
set_option maxRecDepth 100000
namespace Go.Proofs.YtkiloaiffopllaaGreat
open Go.RowKit
theorem Kg {α β:Type} (f:β→α→β) (b:β) {xs:List α} {k:Nat} {x:α} (h:xs[k]?=some x):(xs.take (k+1)).foldl f b=f ((xs.take k).foldl f b) x:=by
 rw [List.take_add_one,h];simp
def liveTo (y:Mte) (k:Nat):Mte:=(y.runs.take k).foldl (liveStep (lvX y)) y
def startTo (y:Mte) (k:Nat):Mte:=(y.wants.take k).foldl startStep y
def askTo (y:Mte) (k:Nat):Mte×List Pcl:=(y.runs.take k).foldl askF (y,[])
theorem Fo {y:Mte} {k:Nat} {x:Rn} (h:y.runs[k]?=some x):liveTo y (k+1)=liveStep (lvX y) (liveTo y k) x:=Kg _ _ h
theorem Dw {y:Mte} {k:Nat} {x:Wnt} (h:y.wants[k]?=some x):startTo y (k+1)=startStep (startTo y k) x:=Kg _ _ h
theorem Mn {y:Mte} {k:Nat} {x:Rn} (h:y.runs[k]?=some x):askTo y (k+1)=askF (askTo y k) x:=Kg _ _ h
theorem Ja (y:Mte):liveTo y y.runs.length=liveM y:=by unfold liveTo;rw [List.take_length];rfl
theorem Hf (y:Mte):startTo y y.wants.length=startM y:=by unfold startTo;rw [List.take_length];rfl
theorem Fb (y:Mte):askTo y y.runs.length=asksM y:=by unfold askTo;rw [List.take_length];rfl
theorem Da (lv:Rn→Rn×Bool):∀ (rs:List Rn) (x:Mte),(rs.foldl (liveStep lv) x).wants=x.wants∧(rs.foldl (liveStep lv) x).clock=x.clock∧(rs.foldl (liveStep lv) x).name=x.name
 | [],_=>⟨rfl,rfl,rfl⟩
 | r::rs,x=>by
  obtain ⟨h1,h2,h3⟩:=Da lv rs (liveStep lv x r);obtain ⟨e1,e2,e3⟩:=Wi lv x r;exact ⟨h1.trans e1,h2.trans e2,h3.trans e3⟩
theorem Rs:∀ (rs:List Wnt) (x:Mte),(rs.foldl startStep x).wants=x.wants∧(rs.foldl startStep x).clock=x.clock∧(rs.foldl startStep x).name=x.name
 | [],_=>⟨rfl,rfl,rfl⟩
 | r::rs,x=>by
  obtain ⟨h1,h2,h3⟩:=Rs rs (startStep x r);obtain ⟨e1,e2,e3⟩:=Nn x r;exact ⟨h1.trans e1,h2.trans e2,h3.trans e3⟩
theorem Pe:∀ (rs:List Rn) (s:Mte×List Pcl),(rs.foldl askF s).1.wants=s.1.wants∧(rs.foldl askF s).1.clock=s.1.clock∧(rs.foldl askF s).1.name=s.1.name∧(rs.foldl askF s).1.gives=s.1.gives∧(rs.foldl askF s).1.runs=s.1.runs∧(rs.foldl askF s).1.seen=s.1.seen
 | [],_=>⟨rfl,rfl,rfl,rfl,rfl,rfl⟩
 | r::rs,s=>by
  obtain ⟨h1,h2,h3,h4,h5,h6⟩:=Pe rs (askF s r);obtain ⟨e1,e2,e3,e4,e5,e6⟩:=Oj s r;exact ⟨h1.trans e1,h2.trans e2,h3.trans e3,h4.trans e4,h5.trans e5,h6.trans e6⟩
theorem Ly {y z:Mte} (hw:z.wants=y.wants) (hc:z.clock=y.clock) (x:Rn):lvX z x=lvX y x:=by unfold lvX soW;rw [hw,hc]
theorem Jz (y:Mte) (r:Rn) (h:(lvX y r).2=true):(lvX y r).1.want=r.want:=Wo _ _ _ h
theorem TOk.liveTo {y:Mte} (h:TOk y) (k:Nat):TOk (liveTo y k):=TOk.lives (Jz y) _ h (fun z hz=>h.z6 z (List.mem_of_mem_take hz))
theorem TOk.startTo {y:Mte} (h:TOk y) (k:Nat):TOk (startTo y k):=TOk.starts _ h (fun _ hz=>List.mem_of_mem_take hz)
theorem TOk.asks:∀ (rs:List Rn) {s:Mte×List Pcl},TOk s.1→Iv rs 20→TOk (rs.foldl Go.Proofs.YtkiloaiffopllaaGreat.askF s).1
 | [],_,h,_=>h
 | r::rs,s,h,hz=>TOk.asks rs (TOk.askF (x:=s.1) (ps:=s.2) h r (hz r List.mem_cons_self)) (fun z hm=>hz z (List.mem_cons_of_mem _ hm))
theorem TOk.askTo {y:Mte} (h:TOk y) (k:Nat):TOk (askTo y k).1:=TOk.asks _ h (fun z hz=>h.z6 z (List.mem_of_mem_take hz))
theorem TOk.liveM {y:Mte} (h:TOk y):TOk (liveM y):=by rw [← Ja];exact h.liveTo _
theorem TOk.startM {y:Mte} (h:TOk y):TOk (startM y):=by rw [← Hf];exact h.startTo _
theorem TOk.asksM {y:Mte} (h:TOk y):TOk (asksM y).1:=by rw [← Fb];exact h.askTo _
theorem Sb:∀ (rs:List Rn) (s:Mte×List Pcl),(rs.foldl askF s).2.length≤s.2.length+rs.length
 | [],_=>Nat.le_refl _
 | r::rs,s=>by
  have h:=Sb rs (askF s r);have h2:(askF s r).2.length≤s.2.length+1:=by
   unfold askF
   split
   ·simp
   ·omega
  simp only [List.foldl_cons,List.length_cons];omega
theorem Ga (y:Mte) (k:Nat):(askTo y k).2.length≤k:=by
 have h:=Sb (y.runs.take k) (y,[]);have h2:(y.runs.take k).length≤k:=by rw [List.length_take];omega
 have h3:((y,[]):Mte×List Pcl).2.length=0:=rfl;unfold askTo;omega
theorem Iy (lv:Rn→Rn×Bool) (hk:∀ r,(lv r).2=true→(lv r).1.want=r.want) (tl:List Rn):∀ (rest done:List Rn) (x:Mte),x.runs=done++(rest++tl)→Asc (·.want.copy) (done++(rest++tl))→(rest.foldl (liveStep lv) x).runs=done++rest.filterMap (Gx lv)++tl
 | [],done,x,hx,_=>by simpa using hx
 | r::rest,done,x,hx,ha=>by
  obtain ⟨h1,h2,h3⟩:=List.pairwise_append.1 ha;obtain ⟨h4,h5⟩:=List.pairwise_cons.1 h2;have nd:∀ z∈done,z.want.copy≠r.want.copy:=fun z hz=>Ef (h3 z hz r List.mem_cons_self)
  have nr:∀ z∈rest++tl,z.want.copy≠r.want.copy:=fun z hz e=>Ef (h4 z hz) e.symm
  rw [List.foldl_cons];by_cases c:(lv r).2=true
  ·have e1:(liveStep lv x r).runs=(done++[(lv r).1])++(rest++tl):=by
    unfold liveStep;rw [if_pos c];show x.runs.map _=_
    rw [hx,List.map_append,List.cons_append,List.map_cons,if_pos rfl,List.append_assoc]
    congr 1
    ·exact (List.map_congr_left (fun z hz=>if_neg (nd z hz))).trans (List.map_id _)
    ·exact congrArg ((lv r).1::·) ((List.map_congr_left (fun z hz=>if_neg (nr z hz))).trans (List.map_id _))
   have e2:Asc (·.want.copy) ((done++[(lv r).1])++(rest++tl)):=by
    rw [List.append_assoc];refine List.pairwise_append.2 ⟨h1,List.pairwise_cons.2 ⟨fun z hz=>?_,h5⟩,fun y hy z hz=>?_⟩
    ·show (lv r).1.want.copy.toList<z.want.copy.toList
     rw [hk r c];exact h4 z hz
    ·rcases List.mem_cons.1 hz with rfl | hz
     ·show y.want.copy.toList<(lv r).1.want.copy.toList
      rw [hk r c];exact h3 y hy r List.mem_cons_self
     ·exact h3 y hy z (List.mem_cons_of_mem _ hz)
   rw [Iy lv hk tl rest (done++[(lv r).1]) _ e1 e2,List.filterMap_cons,show Gx lv r=some (lv r).1 from if_pos c];simp
  ·have e1:(liveStep lv x r).runs=done++(rest++tl):=by
    unfold liveStep;rw [if_neg c,Sa];show x.runs.filter _=_
    rw [hx,List.filter_append,List.cons_append,List.filter_cons];rw [if_neg (by simp)]
    congr 1
    ·exact List.filter_eq_self.2 (fun z hz=>by simp [nd z hz])
    ·exact List.filter_eq_self.2 (fun z hz=>by simp [nr z hz])
   have e2:Asc (·.want.copy) (done++(rest++tl)):=List.pairwise_append.2 ⟨h1,h5,fun y hy z hz=>h3 y hy z (List.mem_cons_of_mem _ hz)⟩;rw [Iy lv hk tl rest done _ e1 e2,List.filterMap_cons,show Gx lv r=none from if_neg c]
theorem Lb {y:Mte} (h:TOk y) (k:Nat):(liveTo y k).runs=(y.runs.take k).filterMap (Gx (lvX y))++y.runs.drop k:=by
 have:=Iy (lvX y) (Jz y) (y.runs.drop k) (y.runs.take k) [] y (by simp) (by simpa using h.A6);simpa [liveTo] using this
theorem Tu {y:Mte} (h:TOk y) {k:Nat} {x:Rn} (hx:y.runs[k]?=some x):(liveTo y k).runs.any (fun z=>decide (z.want.copy=x.want.copy))=true:=by
 rw [Lb h];refine List.any_eq_true.2 ⟨x,List.mem_append_right _ ?_,by simp⟩;have hl:=Ah hx;rw [gE hl] at hx;rw [List.drop_eq_getElem_cons hl,Option.some.inj hx];exact List.mem_cons_self
theorem Ru {y z:Mte} (h:TOk y) {k:Nat} {x:Rn} (hx:y.runs[k]?=some x) (hz:z=liveTo y k) {F:Rn} (hF:(F,true)=lvX z x):liveStep (lvX y) z x={ z with runs:=Az (·.want.copy) z.runs F }:=by
 have hs:z.wants=y.wants∧z.clock=y.clock:=by rw [hz];exact ⟨(Da _ _ _).1,(Da _ _ _).2.1⟩
 rw [Ly hs.1 hs.2] at hF;have h1:(lvX y x).1=F:=by rw [← hF]
 have h2:(lvX y x).2=true:=by rw [← hF]
 have h3:F.want=x.want:=by rw [← h1];exact Jz y x h2
 have ha:Asc (·.want.copy) z.runs:=by rw [hz];exact (h.liveTo k).A6
 have hn:z.runs.any (fun z=>decide (z.want.copy=F.want.copy))=true:=by rw [hz,h3];exact Tu h hx
 unfold liveStep;rw [if_pos h2,Qo ha hn,h1,h3]
theorem Wr {y z:Mte} {k:Nat} {x:Rn} (hz:z=liveTo y k) {F:Rn} (hF:(F,false)=lvX z x):liveStep (lvX y) z x=Bh { z with runs:=z.runs.filter (fun r=>!decide (r.want.copy=x.want.copy)) } x.want.hold:=by
 have hs:z.wants=y.wants∧z.clock=y.clock:=by rw [hz];exact ⟨(Da _ _ _).1,(Da _ _ _).2.1⟩
 rw [Ly hs.1 hs.2] at hF;unfold liveStep;rw [if_neg (by rw [← hF];simp)]
def Di (x:Pcl):List Value:=[.int .i64 x.kind,.string x.berth,.int .i64 x.seen,.slice none 0 0,.string x.hold,.string x.copy,.int .i64 x.at_]
def Bg:List Pcl→List Value
 | []=>[]
 | x::r=>Di x++Bg r
theorem Fa (x:Pcl):(Di x).length=7:=rfl
theorem Xh:∀ xs:List Pcl,(Bg xs).length=xs.length*7
 | []=>rfl
 | x::r=>by
  have:=Xh r;simp only [Bg,List.length_append,List.length_cons,Fa];omega
theorem Mm:∀ (xs:List Pcl) (k:Nat) (x:Pcl) (j:Nat),xs[k]?=some x→j<7→(Bg xs)[k*7+j]?=(Di x)[j]?
 | [],_,_,_,h,_=>by simp at h
 | y::r,0,x,j,h,hj=>by
  simp at h;subst h;simp only [Bg];rw [List.getElem?_append_left (by rw [Fa];omega)];simp
 | y::r,k+1,x,j,h,hj=>by
  simp at h;simp only [Bg];rw [List.getElem?_append_right (by rw [Fa];omega),Fa,show (k+1)*7+j - 7=k*7+j by omega];exact Mm r k x j h hj
theorem Eh:∀ (xs:List Pcl),∀ u∈Bg xs,u.oneCell'=true
 | [],u,h=>by cases h
 | x::r,u,h=>by
  simp only [Bg,List.mem_append] at h;rcases h with h | h
  ·have:∀ v∈Di x,v.oneCell'=true:=by
    intro v hv;simp only [Di,List.mem_cons,List.not_mem_nil,or_false] at hv;rcases hv with rfl | rfl | rfl | rfl | rfl | rfl | rfl <;> rfl
   exact this u h
  ·exact Eh r u h
theorem Eg:∀ (xs ys:List Pcl),Bg (xs++ys)=Bg xs++Bg ys
 | [],_=>rfl
 | x::r,ys=>by simp only [List.cons_append,Bg,Eg r ys,List.append_assoc]
theorem My {base cap:Nat} {a:OA} {w:World} {xs:List Pcl} (h:w.ownsRow base 54 7 (.slice a xs.length cap) xs.length (Bg xs)) (hz:PSm 100 xs):SliceC PclC 7 base w a xs:=by
 have hm:=hz.1;rcases h.2 with ⟨h1,_⟩ | ⟨g',cap',cur,h1,_⟩
 ·have:xs.length=0:=by injection h1
  rw [List.length_eq_zero_iff.1 this];exact SliceC.nil
 ·have e:a=some ⟨g',0,none⟩:=by injection h1
  subst e;refine ⟨by unfold maxLen;omega,.inr ⟨g',0,rfl,⟨Ob h,fun _ p=>h.frozenAt p⟩,(h.lt g' rfl).2,fun k x hk=>?_⟩⟩;have hlt:=Ah hk;obtain ⟨e1,e2,e3,e4⟩:=hz.2 x (List.mem_of_getElem? hk);have hf:∀ j v,(Di x)[j]?=some v→w.cell? ⟨g',0+k*7+j,none⟩=some v:=fun j v hv=>by
   have hj:j<7:=Ah hv;have:=h.cellAt (k*7+j) (by omega);rw [Nat.zero_add,this,Mm xs k x j hk hj];exact hv
  refine ⟨none,0,hf 0 _ rfl,hf 1 _ rfl,hf 2 _ rfl,?_,hf 4 _ rfl,hf 5 _ rfl,hf 6 _ rfl,by unfold maxLen;omega,by unfold maxLen;omega,by unfold maxLen;omega,?_⟩
  ·rw [e1];exact hf 3 _ rfl
  ·rw [e1];exact SliceC.nil
end Go.Proofs.YtkiloaiffopllaaGreat
namespace Go.Proofs.YtkiloaiffopllaaGreat
open Go.RowKit Go.WideMaps Go.Maps
structure BthI (y:Mte) (p lo kb:Nat) (W0:World) (a5:OA) (c5:Nat) (o6:OA) (k6 j6:Nat) (o7:OA) (k7 j7:Nat) (o8:OA) (k8 j8:Nat) (m1:Option Nat) (m2 n2 m3 n3 m4 n4:Nat) (D2 D3 D4:DataW Unit) (w:World):Prop where
 hP:Blk p #[.string y.name,.bool y.up,.int .i64 y.clock,.bool y.known,.int .i64 y.seen,.slice a5 y.wants.length c5,.slice o6 k6 j6,.slice o7 k7 j7,.slice o8 k8 j8,.map m1,.map (some m2),.map (some m3),.map (some m4)] 125 w
 M2:w.ownsMap Tryz.prog 9 Gs m2 n2 D2
 M3:w.ownsMap Tryz.prog 9 Bn m3 n3 D3
 M4:w.ownsMap Tryz.prog 9 Bn m4 n4 D4
 nn:n2≤kb∧n3≤kb∧n4≤kb
 T2:TabR D2 y.runs
 T3:TabA D3 y.asks
 T4:TabA D4 y.gives
 A6:Aw (y.runs.map (·.want.copy)) y.runs.length=true
 A7:Aw (y.asks.map (·.hold)) y.asks.length=true
 A8:Aw (y.gives.map (·.hold)) y.gives.length=true
 s5:SliceC WntC 7 lo W0 a5 y.wants
 p5:∀ b o s,a5=some ⟨b,o,s⟩→s=none
 sz:MSz y
 ab:∀ a∈y.asks,0≤a.first∧a.at_≤1000000
 ord:W0.heap.size≤m2∧m2<m3∧m3<m4∧m4<p
 hB:Below W0.heap.size W0 w
def Bth (y:Mte) (p lo kb:Nat) (W0 w:World):Prop:=∃ a5 c5 o6 k6 j6 o7 k7 j7 o8 k8 j8 m1 m2 n2 m3 n3 m4 n4 D2 D3 D4,BthI y p lo kb W0 a5 c5 o6 k6 j6 o7 k7 j7 o8 k8 j8 m1 m2 n2 m3 n3 m4 n4 D2 D3 D4 w
theorem Bt {H:Type} {P:Program} {k:TypeId} {R:Value→Option (DataW H×List MemPlace)} {w w':World} {b n:Nat} {D:DataW H} (h:w.ownsMap P k R b n D) (e:w'.heap[b]?=w.heap[b]?):w'.ownsMap P k R b n D:=by
 obtain ⟨es,clock,hb,F,hs,rfl⟩:=h;exact ⟨es,clock,e.trans hb,F,hs,rfl⟩
theorem BthI.below {y:Mte} {p lo kb:Nat} {W0:World} {a5:OA} {c5:Nat} {o6:OA} {k6 j6:Nat} {o7:OA} {k7 j7:Nat} {o8:OA} {k8 j8:Nat} {m1:Option Nat} {m2 n2 m3 n3 m4 n4:Nat} {D2 D3 D4:DataW Unit} {w w':World} (h:BthI y p lo kb W0 a5 c5 o6 k6 j6 o7 k7 j7 o8 k8 j8 m1 m2 n2 m3 n3 m4 n4 D2 D3 D4 w) (hb:Below w.heap.size w w'):BthI y p lo kb W0 a5 c5 o6 k6 j6 o7 k7 j7 o8 k8 j8 m1 m2 n2 m3 n3 m4 n4 D2 D3 D4 w' :=
 ⟨h.hP.below hb h.hP.lt,Ak h.M2 hb h.M2.lt,Ak h.M3 hb h.M3.lt,Ak h.M4 hb h.M4.lt,h.nn,h.T2,h.T3,h.T4,h.A6,h.A7,h.A8,h.s5,h.p5,h.sz,h.ab,h.ord,h.hB.trans (hb.mono h.hB.size)⟩
theorem Ra {m n:Nat} {D:DataW Unit} {xs:List Aks} {s:BA} (ht:TabA D xs) (hs:s.size≤1048576) :
  (∃ x,xs.find? (fun a=>decide (a.hold=s))=some x∧∀ v:World,v.ownsMap Tryz.prog 9 Bn m n D→(Instr.lookup 121 (.map (some m)) (.string s) true).run Tryz.prog v=.ok (.tuple #[.agg (aaA x),.bool true]) v) ∨
  (xs.find? (fun a=>decide (a.hold=s))=none∧∀ v:World,v.ownsMap Tryz.prog 9 Bn m n D→(Instr.lookup 121 (.map (some m)) (.string s) true).run Tryz.prog v=.ok (.tuple #[.agg AaA,.bool false]) v):=by
 have hz:s.size≤maxLen:=by unfold maxLen;omega
 cases hf:xs.find? (fun a=>decide (a.hold=s)) with
 | some x =>
  have hx:=List.mem_of_find?_eq_some hf;have he:x.hold=s:=by have:=List.find?_some hf;exact of_decide_eq_true this
  refine .inl ⟨x,rfl,fun v hv=>?_⟩;obtain ⟨u,ps,hrun,hu⟩:=hv.look_ok Bo Tryz.underlying121 (Hd _) (Dd ⟨⟨#[]⟩,⟨#[]⟩,0,0⟩) (keyOf_string_mk Tryz.underlying9 hz);have hh:has D (kOf s)=true:=by
   rw [ht.has_ s,List.any_eq_true];exact ⟨x,hx,decide_eq_true he⟩
  have hv2:Bn u=some (Iz x,ps):=hu.trans (congrArg (fun d=>some (d,ps)) (he▸ht.at_ x hx));obtain ⟨z,rfl,e⟩:=Dt hv2;have:x=z:=Hn (congrArg Prod.fst e);subst this;rw [hrun];exact congrArg (fun b=>Result.ok (Value.tuple #[.agg (aaA x),.bool b]) v) hh
 | none =>
  refine .inr ⟨rfl,fun v hv=>?_⟩;obtain ⟨u,ps,hrun,hu⟩:=hv.look_ok Bo Tryz.underlying121 (Hd _) (Dd ⟨⟨#[]⟩,⟨#[]⟩,0,0⟩) (keyOf_string_mk Tryz.underlying9 hz);have hh:has D (kOf s)=false:=by
   rw [ht.has_ s,List.any_eq_false];intro a ha;exact List.find?_eq_none.1 hf a ha
  have hv2:Bn u=some (Iz ⟨⟨#[]⟩,⟨#[]⟩,0,0⟩,ps):=hu.trans (congrArg (fun d=>some (d,ps)) (atKey_of_not_has hh _));obtain ⟨z,rfl,e⟩:=Dt hv2;have:(⟨⟨#[]⟩,⟨#[]⟩,0,0⟩:Aks)=z:=Hn (congrArg Prod.fst e);subst this;rw [hrun];exact congrArg (fun b=>Result.ok (Value.tuple #[.agg AaA,.bool b]) v) hh
theorem Zf {m n:Nat} {D:DataW Unit} {xs:List Rn} {s:BA} (ht:TabR D xs) (hs:s.size≤1048576) :
  (∃ r,xs.find? (fun a=>decide (a.want.copy=s))=some r∧∀ v:World,v.ownsMap Tryz.prog 9 Gs m n D→(Instr.lookup 118 (.map (some m)) (.string s) true).run Tryz.prog v=.ok (.tuple #[.agg (rrA r),.bool true]) v) ∨
  (xs.find? (fun a=>decide (a.want.copy=s))=none∧∀ v:World,v.ownsMap Tryz.prog 9 Gs m n D→(Instr.lookup 118 (.map (some m)) (.string s) true).run Tryz.prog v=.ok (.tuple #[.agg RrA,.bool false]) v):=by
 have hz:s.size≤maxLen:=by unfold maxLen;omega
 cases hf:xs.find? (fun a=>decide (a.want.copy=s)) with
 | some r =>
  have hx:=List.mem_of_find?_eq_some hf;have he:r.want.copy=s:=by have:=List.find?_some hf;exact of_decide_eq_true this
  refine .inl ⟨r,rfl,fun v hv=>?_⟩;obtain ⟨u,ps,hrun,hu⟩:=hv.look_ok Bo Tryz.underlying118 (Mk _) (Ju ⟨⟨⟨#[]⟩,0,⟨#[]⟩,0,0,0,0⟩,0,0,0,0⟩) (keyOf_string_mk Tryz.underlying9 hz);have hh:has D (kOf s)=true:=by
   rw [ht.has_ s,List.any_eq_true];exact ⟨r,hx,decide_eq_true he⟩
  have hv2:Gs u=some (Jo r,ps):=hu.trans (congrArg (fun d=>some (d,ps)) (he▸ht.at_ r hx));obtain ⟨z,rfl,e⟩:=Np hv2;have:r=z:=Mw (congrArg Prod.fst e);subst this;rw [hrun];exact congrArg (fun b=>Result.ok (Value.tuple #[.agg (rrA r),.bool b]) v) hh
 | none =>
  refine .inr ⟨rfl,fun v hv=>?_⟩;obtain ⟨u,ps,hrun,hu⟩:=hv.look_ok Bo Tryz.underlying118 (Mk _) (Ju ⟨⟨⟨#[]⟩,0,⟨#[]⟩,0,0,0,0⟩,0,0,0,0⟩) (keyOf_string_mk Tryz.underlying9 hz);have hh:has D (kOf s)=false:=by
   rw [ht.has_ s,List.any_eq_false];intro a ha;exact List.find?_eq_none.1 hf a ha
  have hv2:Gs u=some (Jo ⟨⟨⟨#[]⟩,0,⟨#[]⟩,0,0,0,0⟩,0,0,0,0⟩,ps):=hu.trans (congrArg (fun d=>some (d,ps)) (atKey_of_not_has hh _));obtain ⟨z,rfl,e⟩:=Np hv2;have:(⟨⟨⟨#[]⟩,0,⟨#[]⟩,0,0,0,0⟩,0,0,0,0⟩:Rn)=z:=Mw (congrArg Prod.fst e);subst this;rw [hrun];exact congrArg (fun b=>Result.ok (Value.tuple #[.agg RrA,.bool b]) v) hh
theorem BthI.under {y:Mte} {p lo kb B:Nat} {W0:World} {a5:OA} {c5:Nat} {o6:OA} {k6 j6:Nat} {o7:OA} {k7 j7:Nat} {o8:OA} {k8 j8:Nat} {m1:Option Nat} {m2 n2 m3 n3 m4 n4:Nat} {D2 D3 D4:DataW Unit} {w w':World} (h:BthI y p lo kb W0 a5 c5 o6 k6 j6 o7 k7 j7 o8 k8 j8 m1 m2 n2 m3 n3 m4 n4 D2 D3 D4 w) (hb:Below B w w') (hB:p<B):BthI y p lo kb W0 a5 c5 o6 k6 j6 o7 k7 j7 o8 k8 j8 m1 m2 n2 m3 n3 m4 n4 D2 D3 D4 w':=by
 have ho:=h.ord;exact ⟨h.hP.below hb hB,Ak h.M2 hb (by omega),Ak h.M3 hb (by omega),Ak h.M4 hb (by omega),h.nn,h.T2,h.T3,h.T4,h.A6,h.A7,h.A8,h.s5,h.p5,h.sz,h.ab,h.ord,h.hB.trans (hb.mono (by omega))⟩
theorem Bl {p b:Nat} {cs:Array Value} {t:TypeId} {w w':World} (h:Blk p cs t w) (hg:w.grownBy w' (some b)) (hne:p≠b):Blk p cs t w' :=
 (hg.block p h.lt (fun e=>hne (Option.some.inj e))).trans h
theorem Cd {H:Type} {P:Program} {k:TypeId} {R:Value→Option (DataW H×List MemPlace)} {w w':World} {b m n:Nat} {D:DataW H} (h:w.ownsMap P k R b n D) (hg:w.grownBy w' (some m)) (hne:b≠m):w'.ownsMap P k R b n D :=
 Bt h (hg.block b h.lt (fun e=>hne (Option.some.inj e)))
theorem Ok {P:Program} {op:Oper} {a:Act} {w w':World} {K:Act→World→Prop} {Q:Exit→Act→World→Prop} (m x:Operand) (t k:TypeId) (hop:op.op=Op.call { callee:=Callee.builtin Builtin.delete,args:=#[m,x],argTypes:=#[t,k] }) (b:Nat) (key:Value)
  (hm:a.eval m=.map (some b)) (hx:a.eval x=key) (hrun:(Builtin.delete_ #[t,k] op.type #[.map (some b),key]).run P w=.ok (.tuple #[]) w') (hK:K (a.put op.dst (.tuple #[])) w'):op.wp P a w K Q:=by
 unfold Oper.wp;simp [execOp,hop,resolve,invoke,builtin,hm,hx,hrun,Result.andThen];exact hK
theorem BthI.more {y:Mte} {p lo kb:Nat} {W0:World} {a5:OA} {c5:Nat} {o6:OA} {k6 j6:Nat} {o7:OA} {k7 j7:Nat} {o8:OA} {k8 j8:Nat} {m1:Option Nat} {m2 n2 m3 n3 m4 n4:Nat} {D2 D3 D4:DataW Unit} {w:World} (h:BthI y p lo kb W0 a5 c5 o6 k6 j6 o7 k7 j7 o8 k8 j8 m1 m2 n2 m3 n3 m4 n4 D2 D3 D4 w):BthI y p lo (kb+1) W0 a5 c5 o6 k6 j6 o7 k7 j7 o8 k8 j8 m1 m2 n2 m3 n3 m4 n4 D2 D3 D4 w :=
 ⟨h.hP,h.M2,h.M3,h.M4,⟨Nat.le_succ_of_le h.nn.1,Nat.le_succ_of_le h.nn.2.1,Nat.le_succ_of_le h.nn.2.2⟩,h.T2,h.T3,h.T4,h.A6,h.A7,h.A8,h.s5,h.p5,h.sz,h.ab,h.ord,h.hB⟩
def Ij (v:Value):Option (DataW Unit×List MemPlace):=match v with
 | .agg cs=>match cs.toList with
  | [.string c0,.int .i64 c1,.string c2,.int .i64 c3,.int .i64 c4,.int .i64 c5,.int .i64 c6]=>some (.agg [.lit (.string c0.data.toList),.lit (.int .i64 c1),.lit (.string c2.data.toList),.lit (.int .i64 c3),.lit (.int .i64 c4),.lit (.int .i64 c5),.lit (.int .i64 c6)],[])
  | _=>none
 | _=>none
def Gv (x:Wnt):DataW Unit:=.agg [.lit (.string x.copy.data.toList),.lit (.int .i64 x.version),.lit (.string x.hold.data.toList),.lit (.int .i64 x.pull),.lit (.int .i64 x.start),.lit (.int .i64 x.dies),.lit (.int .i64 x.grace)]
theorem Rp (x:Wnt):Ij (.agg (wwA x))=some (Gv x,[]):=rfl
theorem Ov {v:Value} {z:DataW Unit×List MemPlace} (h:Ij v=some z):∃ x:Wnt,v=.agg (wwA x)∧z=(Gv x,[]):=by
 cases v with
 | agg cs =>
  obtain ⟨l⟩:=cs
  match l,h with
  | [.string c0,.int .i64 c1,.string c2,.int .i64 c3,.int .i64 c4,.int .i64 c5,.int .i64 c6],e=>exact ⟨⟨c0,c1,c2,c3,c4,c5,c6⟩,rfl,(Option.some.inj e).symm⟩
 | _=>cases h
theorem Pg {x y:Wnt} (h:Gv x=Gv y):x=y:=by
 unfold Gv at h;injection h with h;injection h with h0 h;injection h with h1 h;injection h with h2 h;injection h with h3 h;injection h with h4 h;injection h with h5 h;injection h with h6 _;injection h0 with h0;injection h0 with h0;injection h1 with h1;injection h1 with _ h1;injection h2 with h2;injection h2 with h2;injection h3 with h3;injection h3 with _ h3;injection h4 with h4;injection h4 with _ h4;injection h5 with h5;injection h5 with _ h5;injection h6 with h6;injection h6 with _ h6;obtain ⟨a0,a1,a2,a3,a4,a5,a6⟩:=x;obtain ⟨b0,b1,b2,b3,b4,b5,b6⟩:=y;simp only at h0 h1 h2 h3 h4 h5 h6;rw [Hl h0,h1,Hl h2,h3,h4,h5,h6]
def Fq:List Wnt→DataW Unit
 | []=>.map []
 | a::r=>(Fq r).put (kOf a.copy) (Gv a)
theorem Ha:∀ r,IsMap (Fq r)
 | []=>⟨_,rfl⟩
 | _::r=>IsMap.put (Ha r) _ _
theorem Pk (s:BA):∀ r,has (Fq r) (kOf s)=r.any (fun a=>decide (a.copy=s))
 | []=>rfl
 | a::r=>by
  by_cases e:a.copy=s
  ·unfold Fq
   rw [← e];simp;exact has_put_same (Ha r) (show WideAt.IsKeyLit (kOf _) from trivial) _
  ·unfold Fq
   rw [has_put_other (fun h=>e (Cl h).symm),Pk s r];simp [e]
theorem Qr (s:BA) (d:DataW Unit):∀ r,(Fq r).atKey (kOf s) d=match r.find? (fun a=>decide (a.copy=s)) with
  | some a=>Gv a
  | none=>d
 | []=>rfl
 | a::r=>by
  by_cases e:a.copy=s
  ·unfold Fq
   simp only [List.find?_cons,e,decide_true];exact atKey_put_same (Ha r) (show WideAt.IsKeyLit (kOf _) from trivial) _ _
  ·unfold Fq
   rw [atKey_put_other (fun h=>e (Cl h).symm),Qr s d r];simp [e]
theorem Tk (xs:List Wnt) (a:OA) (cap lo:Nat) (w:World) (hin:SliceC WntC 7 lo w a xs) (hsm:xs.length≤1048576) :
  Calls Tryz.prog 79 #[.slice a xs.length cap,.func (.func 80) #[] #[]] w fun e w'=>∃ m n:Nat,e=.returned (.map (some m))∧w.heap.size≤m∧n≤xs.length∧w'.ownsMap Tryz.prog 9 Ij m n (Fq xs.reverse)∧Below w.heap.size w w':=by
 have hmm:∀ q n w,(Instr.makeMap 115 (some (.int q n))).run Tryz.prog w=.ok (.map (some w.heap.size)) (w.alloc (.map #[] 0)):=fun q n w=>Dn Tryz.underlying115 q n w
 have HI:=iH hin;clear hin;go_enter Tryz.func79,Tryz.ntmps79;go_wp2_with fail;go_loopw [13] (fun i wr=>∃ k n:Nat,k≤xs.length∧i=.int .i64 k∧Hid (n≤k)∧Hid (wr.ownsMap Tryz.prog 9 Ij w.heap.size n (Fq (xs.take k).reverse))∧Below w.heap.size w wr) (fun i _=>xs.length - (intOf i).toNat)
 case atStart=>exact ⟨0,0,zL,rfl,Nat.le_refl _,World.ownsMap_made _ _ _ _,(Below.refl _ _).alloc nL _⟩
 case round =>
  clear hmm;obtain ⟨k,n,hk,rfl,hn,HO,hB⟩:=hrel;by_cases hlt:k<xs.length
  case neg =>
   have hke:k=xs.length:=by omega
   subst hke;have HOE:Hid (wr.ownsMap Tryz.prog 9 Ij w.heap.size n (Fq xs.reverse)):=by show World.ownsMap _ _ _ _ _ _ _;have:=HO.out;rw [List.take_length] at this;exact this
   go_wp2_with fail;go_ret;exact ⟨w.heap.size,n,rfl,Nat.le_refl _,hn.out,HOE,hB⟩
  obtain ⟨x,hx⟩:=gXe hlt;obtain ⟨b,o,rfl,_,hbl,hc⟩:=(HI.out.below WntC.holds hB nL).at hx;have HRA:=iH (Du hc);obtain ⟨_,_,_,_,_,_,_,z0,z2⟩:=hc;have hkm:keyOf Tryz.prog 9 (.string x.copy)=some (kOf x.copy):=keyOf_string_mk Tryz.underlying9 z0;have HXX:=iH hx;clear z0 z2 hx;have hn2:=hn.out;have HK4:=iH (Blk.alloc wr (wwA x) 86);have HO4:=iH (HO.out.alloc (Obj.cells (wwA x) 86));have hB4:Below w.heap.size w (wr.alloc (Obj.cells (wwA x) 86)):=hB.trans (((Below.refl wr.heap.size wr).alloc nL _).mono hB.size);have hmg:w.heap.size<wr.heap.size:=HO.out.lt;clear HO hB;go_upto_region 5 with (refine qLr Gr HRA ?_);clear HRA;generalize wr.alloc (Obj.cells (wwA x) 86)=w4 at *;generalize wr.heap.size=g at *;refine wp_region_held_drew (S:=fun wy=>Blk g (wwA x) 86 wy) (by kernel_rfl) HK4.out.drew (fun hS=>?_);have hBd:=hB4.trans ((Below.refl w.heap.size w4).drew);have HOd:=iH HO4.out.drew;generalize w4.drew=wd at *;refine tz 0 17 (.map (some w.heap.size)) rfl hS ?_;simp only [pX];refine tz 1 18 (.func (.func 80) #[] #[]) rfl hS ?_;simp only [pX];refine tm 2 19 g 0 (wwL x) rfl (fun _ h=>h.rangeA) Tryz.underlying86 Au hS ?_;simp only [pX];refine tm 4 21 g 0 (wwL x) rfl (fun _ h=>h.rangeA) Tryz.underlying86 Au hS ?_;simp only [pX];refine rd1 3 ⟨some 20,_,_,_,_,none⟩ rfl (fun K hK=>?_);go_simp;refine (Hc x _).mono ?_;rintro e w5 ⟨rfl,hb5⟩;have hB5:=qTr hBd hb5;have HO5:=iH (Ak HOd hb5 HOd.out.lt);refine hK.out _ _ (hS.below hb5 hS.lt) (fun hS=>?_);clear hK K;clear hb5 HOd HO4 hBd hB4;obtain ⟨w6,yu,ho6,hg6⟩:=HO5.out.update Bo Tryz.underlying115 (by unfold maxLen;omega) hkm (Rp x);have HG6:=iH hg6;have hB6:Below w.heap.size w w6:=hB5.grown hg6 hB5.size (fun j hj=>by cases hj;exact Nat.le_refl _);have HO6:Hid (w6.ownsMap Tryz.prog 9 Ij w.heap.size (n+1) (Fq (xs.take (k+1)).reverse)):=by show World.ownsMap _ _ _ _ _ _ _;rw [Nj HXX.out];exact ho6
  clear ho6 hg6;refine rd1 5 ⟨none,_,_,_,_,none⟩ rfl (fun K hK=>?_);go_simp;refine hK.out _ _ (hS.grown HG6 (fun h=>absurd (Option.some.inj h) (by show ¬ _=_;omega))) (fun hS=>?_);clear hK K yu hkm HO5 hB5 HG6;refine td ?_;clear hS;go_wp2_with fail;go_roundw
  case rel=>exact ⟨k+1,n+1,by omega,by go_num,by show _≤_;omega,HO6,hB6⟩
  case measure=>simp [intOf];omega
end Go.Proofs.YtkiloaiffopllaaGreat
namespace Go.Proofs.YtkiloaiffopllaaGreat
open Go.RowKit
theorem Si (x:Mte) (a5:OA) (c5:Nat) (a6:OA) (c6:Nat) (a7:OA) (c7:Nat) (a8:OA) (c8:Nat) (lo:Nat) (w:World) (hin:MSl x lo a5 a6 a7 a8 w) :
  Calls Tryz.prog 32 #[.agg (mmA x a5 c5 a6 c6 a7 c7 a8 c8)] w fun e w'=>∃ p m1 n1 m2 n2 m3 n3 m4 n4:Nat,e=.returned (.pointer (some ⟨p,0,none⟩))∧Blk p #[.string x.name,.bool x.up,.int .i64 x.clock,.bool x.known,.int .i64 x.seen,.slice a5 x.wants.length c5,.slice a6 x.runs.length c6,.slice a7 x.asks.length c7,.slice a8 x.gives.length c8,.map (some m1),.map (some m2),.map (some m3),.map (some m4)] 125 w' ∧
   w'.ownsMap Tryz.prog 9 Ij m1 n1 (Fq x.wants.reverse)∧w'.ownsMap Tryz.prog 9 Gs m2 n2 (Jl x.runs.reverse)∧w'.ownsMap Tryz.prog 9 Bn m3 n3 (asM x.asks.reverse)∧w'.ownsMap Tryz.prog 9 Bn m4 n4 (asM x.gives.reverse) ∧
   (n1≤x.wants.length∧n2≤x.runs.length∧n3≤x.asks.length∧n4≤x.gives.length)∧(w.heap.size<m1∧m1<m2∧m2<m3∧m3<m4∧m4<p)∧Below w.heap.size w w':=by
 have HI:=iH hin;clear hin;have HK1:=iH (Blk.alloc w (mmA x a5 c5 a6 c6 a7 c7 a8 c8) 32);have hB1:=(Below.refl _ w).alloc nL (Obj.cells (mmA x a5 c5 a6 c6 a7 c7 a8 c8) 32);go_enter Tryz.func32,Tryz.ntmps32;go_upto_region 1 with fail;generalize w.alloc (Obj.cells (mmA x a5 c5 a6 c6 a7 c7 a8 c8) 32)=w1 at *;refine wp_region_held_drew (S:=fun wy=>Blk w.heap.size (mmA x a5 c5 a6 c6 a7 c7 a8 c8) 32 wy) (by kernel_rfl) HK1.out.drew (fun hS=>?_);have hB2:Below w.heap.size w w1.drew:=hB1.drew;have hz2:w.heap.size<w1.drew.heap.size:=hS.lt;generalize w1.drew=w2 at *;refine tm 0 3 w.heap.size 0 (mmL x a5 c5 a6 c6 a7 c7 a8 c8) rfl (fun _ h=>h.rangeA) Tryz.underlying32 Am hS ?_;simp only [pX];refine tz 1 4 (.pointer (some ⟨w.heap.size,5,none⟩)) rfl hS ?_;simp only [pX];refine tl 2 5 (.slice a5 x.wants.length c5) ⟨w.heap.size,5,none⟩ rfl (fun wy hy=>hy.cell rfl) hS ?_;simp only [pX];refine tz 4 7 (.pointer (some ⟨w.heap.size,6,none⟩)) rfl hS ?_;simp only [pX];refine tl 5 8 (.slice a6 x.runs.length c6) ⟨w.heap.size,6,none⟩ rfl (fun wy hy=>hy.cell rfl) hS ?_;simp only [pX];refine tz 7 10 (.pointer (some ⟨w.heap.size,7,none⟩)) rfl hS ?_;simp only [pX];refine tl 8 11 (.slice a7 x.asks.length c7) ⟨w.heap.size,7,none⟩ rfl (fun wy hy=>hy.cell rfl) hS ?_;simp only [pX];refine tz 10 13 (.pointer (some ⟨w.heap.size,8,none⟩)) rfl hS ?_;simp only [pX];refine tl 11 14 (.slice a8 x.gives.length c8) ⟨w.heap.size,8,none⟩ rfl (fun wy hy=>hy.cell rfl) hS ?_;simp only [pX];refine rd1 3 ⟨some 6,_,_,_,_,none⟩ rfl (fun K hK=>?_);go_simp;refine (Tk x.wants a5 c5 lo _ (HI.out.s5.below WntC.holds hB2 nL) HI.out.l5).mono ?_;rintro e w3 ⟨m1,n1,rfl,hm1,hn1,ho,hb⟩;have hB3:=qTr hB2 hb;have M1:=iH ho;have hz3:=hb.size;have hu1:m1<w3.heap.size:=M1.out.lt;refine hK.out _ _ (hS.below hb hS.lt) (fun hS=>?_);clear hK K;clear hb ho;refine rd1 6 ⟨some 9,_,_,_,_,none⟩ rfl (fun K hK=>?_);go_simp;refine (Ws x.runs a6 c6 lo _ (HI.out.s6.below RnC.holds hB3 nL) HI.out.l6).mono ?_;rintro e w4 ⟨m2,n2,rfl,hm2,hn2,ho,hb⟩;have hB4:=qTr hB3 hb;have M1:=iH (Ak M1 hb M1.out.lt);have M2:=iH ho;have hz4:=hb.size;have hu2:m2<w4.heap.size:=M2.out.lt;refine hK.out _ _ (hS.below hb hS.lt) (fun hS=>?_);clear hK K;clear hb ho;refine rd1 9 ⟨some 12,_,_,_,_,none⟩ rfl (fun K hK=>?_);go_simp;refine (Hk x.asks a7 c7 lo _ (HI.out.s7.below AksC.holds hB4 nL) HI.out.l7).mono ?_;rintro e w5 ⟨m3,n3,rfl,hm3,hn3,ho,hb⟩;have hB5:=qTr hB4 hb;have M1:=iH (Ak M1 hb M1.out.lt);have M2:=iH (Ak M2 hb M2.out.lt);have M3:=iH ho;have hz5:=hb.size;have hu3:m3<w5.heap.size:=M3.out.lt;refine hK.out _ _ (hS.below hb hS.lt) (fun hS=>?_);clear hK K;clear hb ho;refine rd1 12 ⟨some 15,_,_,_,_,none⟩ rfl (fun K hK=>?_);go_simp;refine (Hk x.gives a8 c8 lo _ (HI.out.s8.below AksC.holds hB5 nL) HI.out.l8).mono ?_;rintro e w6 ⟨m4,n4,rfl,hm4,hn4,ho,hb⟩;have hB6:=qTr hB5 hb;have M1:=iH (Ak M1 hb M1.out.lt)
 have M2:=iH (Ak M2 hb M2.out.lt);have M3:=iH (Ak M3 hb M3.out.lt);have M4:=iH ho;have hz6:=hb.size;have hu4:m4<w6.heap.size:=M4.out.lt;refine hK.out _ _ (hS.below hb hS.lt) (fun hS=>?_);clear hK K;clear hb ho;refine tz 13 16 (.agg #[.string x.name,.bool x.up,.int .i64 x.clock,.bool x.known,.int .i64 x.seen,.slice a5 x.wants.length c5,.slice a6 x.runs.length c6,.slice a7 x.asks.length c7,.slice a8 x.gives.length c8,.map (some m1),.map (some m2),.map (some m3),.map (some m4)]) rfl hS ?_;simp only [pX];refine rd1 14 ⟨some 17,_,_,_,_,none⟩ rfl (fun K hK=>?_);go_simp;have HP:=iH (Blk.alloc w6 #[.string x.name,.bool x.up,.int .i64 x.clock,.bool x.known,.int .i64 x.seen,.slice a5 x.wants.length c5,.slice a6 x.runs.length c6,.slice a7 x.asks.length c7,.slice a8 x.gives.length c8,.map (some m1),.map (some m2),.map (some m3),.map (some m4)] 125);have hb:=(Below.refl _ w6).alloc nL (Obj.cells #[.string x.name,.bool x.up,.int .i64 x.clock,.bool x.known,.int .i64 x.seen,.slice a5 x.wants.length c5,.slice a6 x.runs.length c6,.slice a7 x.asks.length c7,.slice a8 x.gives.length c8,.map (some m1),.map (some m2),.map (some m3),.map (some m4)] 125);replace M1:=iH (Ak M1 hb M1.out.lt);replace M2:=iH (Ak M2 hb M2.out.lt);replace M3:=iH (Ak M3 hb M3.out.lt);replace M4:=iH (Ak M4 hb M4.out.lt);have hBf:=qTr hB6 hb;refine hK.out _ _ (hS.below hb hS.lt) (fun hS=>?_);clear hK K hb;generalize w6.alloc (Obj.cells #[.string x.name,.bool x.up,.int .i64 x.clock,.bool x.known,.int .i64 x.seen,.slice a5 x.wants.length c5,.slice a6 x.runs.length c6,.slice a7 x.asks.length c7,.slice a8 x.gives.length c8,.map (some m1),.map (some m2),.map (some m3),.map (some m4)] 125)=wf at *;generalize hp:w6.heap.size=p at *;clear hp;refine tz 15 2 (.pointer (some ⟨p,0,none⟩)) rfl hS ?_;simp only [pX];refine td ?_;clear hS;go_wp2_with fail;go_ret;exact ⟨p,m1,n1,m2,n2,m3,n3,m4,n4,rfl,HP,M1,M2,M3,M4,⟨hn1,hn2,hn3,hn4⟩,⟨by omega,by omega,by omega,by omega,by omega⟩,hBf⟩
end Go.Proofs.YtkiloaiffopllaaGreat
