import Derived.Test.YthboopnmbglkjaaGreatJ20
import Derived.Deep.AppendLies
import Derived.Deep.Onto
import Derived.Lib.SliceRun
set_option maxHeartbeats 2000000
set_option maxRecDepth 100000
namespace Go.Proofs.YthboopnmbglkjaaGreat
open Go.RowKit Tryz
def Ja(ns:List P.Nd)(ms:List BA):Bool:=Ie ns&&(match P.treeI ns with|some t=>Ce ms t|none=>false)
theorem Ye(ns:List P.Nd)(g cn:Nat)(ms:List BA)(am:OA)(cm:Nat)(w:World)(hN:Nodes0 w g ns)(hsm:gO ns)(hM:sX 0 w am ms) :
  Calls prog 151 #[.agg #[sP g 0 ns.length cn],.slice am ms.length cm] w (Rt (.bool (Ja ns ms)) w):=by
 have HN:=iH hN;have HS:=iH hsm;have HM:=iH hM;clear hN hsm hM
 cases hv:Ie ns with
 |false =>
  have HV:=iH hv;have HO:Hid (false=Ja ns ms):=by show _=_;rw[Ja,hv];rfl
  clear hv;go_enter func151,ntmps151;go_wp2_with fail;refine(Rh ns g cn _ (HN.out.grown (by go_grown)) HS).mono ?_;rintro e w1⟨rfl,hb⟩;rw[HV.out]
  go_wp2
  go_ret;exact⟨Ab HO,((Below.refl _ w).alloc nL _).trans (hb.mono (by simp))⟩
 | true =>
  have HV:=iH hv;have hv0:=hv;unfold Ie at hv;simp only[Bool.and_eq_true]at hv;obtain⟨ht,hi⟩:=hv;obtain⟨out,r,t,hko,hol,hrl,hIs,hlo,hhi,hfin,hct⟩:=P.same_tree2 ht;have hlen:=Vo ht;have h20:P.tall t<=20:=by
   by_cases h:P.tall t<=20
   .exact h
   rw[hhi (by omega)]at hi;cases hi
  have HKO:=iH hko;have cc:=λgo co=>tP ns out ns.length cn co go g ms am cm hol t r hIs
  unfold Fx at cc;rw[show((r:Nat):Int)=(ns.length:Int)-1 by omega]at cc;have HC:Hid (∀(go co:Nat)(w:World),Nodes0 w g ns->KidsIn w go out->sX 0 w am ms->Calls prog 174 #[.agg #[sP g 0 ns.length cn],sP go 0 ns.length co,X ((ns.length:Int)-1),.slice am ms.length cm] w λe w'=>e=.returned (.bool (Ce ms t))/\bW w w'):=cc;have hl1:1<=ns.length:=by omega
  have HO:Hid (Ce ms t=Ja ns ms):=by
   show _=_
   rw[Ja,hv0,hlo h20];rfl
  clear ht hko cc hIs hlo hhi hct hrl hol hfin h20 hi hv0;generalize Ce ms t=X9 at *;go_enter func151,ntmps151;go_wp2_with fail;refine(Rh ns g cn _ (HN.out.grown (by go_grown)) HS).mono ?_;rintro e w1⟨rfl,hb⟩;rw[HV.out];have hB1:bW w w1:=((Below.refl _ w).alloc nL _).trans (hb.mono (by simp));have hc1:w1.cell? (E w.heap.size 0)=some (sP g 0 ns.length cn):=(hb.cell (p:=(E w.heap.size 0)) (by simp)).trans (by simp);have hz1:w.heap.size<w1.heap.size:=by have:=hb.size;simp at this;omega
  clear hb;go_wp2_with fail;refine(Vs ns g cn _ (HN.out.grown hB1) hlen).mono ?_;rintro e w2⟨hb2,h2⟩;rw[HKO.out]at h2;obtain⟨go,co,rfl,hkin,_⟩:=h2;have hc2:w2.cell? (E w.heap.size 0)=some (sP g 0 ns.length cn):=(hb2.cell (p:=(E w.heap.size 0)) hz1).trans hc1;have HB:=iH (hB1.trans (hb2.mono (by omega)));have HK:=iH hkin;clear hb2 hkin hc1 hB1;go_wp2_with fail;refine(HC _ _ _ (HN.out.grown HB) HK (HM.out.below StrC.holds HB nL)).mono ?_;rintro e w3⟨rfl,hb3⟩;have HB3:=qTH HB hb3;clear hb3
  go_wp2
  go_ret;exact⟨Ab HO,HB3⟩
open Go.WideMaps Go.Maps Tryz
def It(ks:List BA)(s:BA):Bool:=decide (0<Cm s ks)
def eqB:BA:=⟨#[61]⟩
def Dd(ks:List BA):P.Tr->Bool
 |.nil=>true
 |.node b _ p l r =>
  if b=0 then true
  else if b=1 then It ks p.1
  else if b=2 then It ks (p.1++eqB++p.2)
  else if b=3 then !Dd ks l
  else if b=4 then Dd ks l&&Dd ks r
  else Dd ks l||Dd ks r
def Hi:P.Tr->Prop
 |.nil=>True
 |.node _ _ p l r=>p.1.size<=1000/\p.2.size<=1000/\Hi l/\Hi r
structure rA (name:String):Prop where
 c0:∀v w,(callMethod (.iface 259 (.agg #[])) name #[v]).run prog w=.ok (.enter 234 #[.agg #[],v]) w
 c1:∀n v w,(callMethod (.iface 284 (.agg #[Y n])) name #[v]).run prog w=.ok (.enter 251 #[.agg #[Y n],v]) w
 c2:∀n m v w,(callMethod (.iface 286 (.agg #[Y n,Y m])) name #[v]).run prog w=.ok (.enter 254 #[.agg #[Y n,Y m],v]) w
 c3:∀x h v w,(callMethod (.iface 280 (.agg #[x,X h])) name #[v]).run prog w=.ok (.enter 247 #[.agg #[x,X h],v]) w
 c4:∀x y h v w,(callMethod (.iface 278 (.agg #[x,y,X h])) name #[v]).run prog w=.ok (.enter 243 #[.agg #[x,y,X h],v]) w
 c5:∀x y h v w,(callMethod (.iface 276 (.agg #[x,y,X h])) name #[v]).run prog w=.ok (.enter 239 #[.agg #[x,y,X h],v]) w
def MtR(ks:List BA)(t:P.Tr)(w:World)(u:Value)(w':World):Prop:=u=.bool (Dd ks t)/\bW w w'
def nR(t:P.Tr):Prop:=∀(name:String),rA name->∀(x:Value),Hid (val t=x)->∀(m n:Nat)(ks:List BA)(w:World),w.ownsMap prog 9 (plainElem prog 3) m n (Fy ks)->Hi t->vP prog x name #[.map (some m)] w (MtR ks t w)
theorem Xr(v:Value)(w:World):Calls prog 234 #[.agg #[],v] w (Rt (.bool true) w):=by
 go_enter func234,ntmps234
 go_wp2
 go_ret;exact⟨rfl,by go_grown⟩
theorem mP(ks:List BA)(s:BA):decide ((0:Int)<((Cm s ks:Nat):Int))=It ks s:=by
 unfold It
 congr 1
 apply propext;omega
theorem Xi(s:BA)(m n:Nat)(ks:List BA)(w:World)(ho:w.ownsMap prog 9 (plainElem prog 3) m n (Fy ks))(hs:s.size<=1000) :
  Calls prog 251 #[.agg #[Y s],.map (some m)] w (Rt (.bool (It ks s)) w):=by
 have hk:keyOf prog 9 (Y s)=some (kOf s):=keyOf_string_mk underlying9 (by unfold maxLen;omega);have HA:Hid ((Fy ks).atKey (kOf s) (.lit (.int .i64 0))=.lit (.int .i64 ((Cm s ks:Nat):Int))):=Ns s ks;have HH:Hid (decide ((0:Int)<((Cm s ks:Nat):Int))=It ks s):=mP ks s;have HO:=iH ho;clear ho;generalize((Cm s ks:Nat):Int)=cc at *;generalize It ks s=R at *;go_enter func251,ntmps251;go_wp2_with(at_lookup;refine wpList_lookup_own_int _ rfl _ _ 218 rfl 9 3 .i64 El underlying218 underlying3 (Ga _) m _ _ rfl (Ag HO (by first|exact Below.refl _ _|exact(Below.refl _ _).alloc nL _) HO.out.lt) _ _ rfl hk ?_;intro c hcc _;obtain rfl:=Ef (hcc.symm.trans HA));go_ret;exact⟨Ab HH,by go_grown⟩
theorem Te(s t:BA)(m n:Nat)(ks:List BA)(w:World)(ho:w.ownsMap prog 9 (plainElem prog 3) m n (Fy ks))(hs:s.size<=1000)(ht:t.size<=1000) :
  Calls prog 254 #[.agg #[Y s,Y t],.map (some m)] w (Rt (.bool (It ks (s++eqB++t))) w):=by
 have hk:keyOf prog 9 (Y (s++eqB++t))=some (kOf (s++eqB++t)):=keyOf_string_mk underlying9 (by have:eqB.size=1:=rfl;unfold maxLen;rw[ByteArray.size_append,ByteArray.size_append];omega);have HA:Hid ((Fy ks).atKey (kOf (s++eqB++t)) (.lit (.int .i64 0))=.lit (.int .i64 ((Cm (s++eqB++t) ks:Nat):Int))):=Ns _ ks;have HH:Hid (decide ((0:Int)<((Cm (s++eqB++t) ks:Nat):Int))=It ks (s++eqB++t)):=mP ks _;have HO:=iH ho;clear ho;generalize((Cm (s++eqB++t) ks:Nat):Int)=cc at *;generalize It ks (s++eqB++t)=R at *;go_enter func254,ntmps254;go_wp2_with(at_lookup;refine wpList_lookup_own_int _ rfl _ _ 218 rfl 9 3 .i64 El underlying218 underlying3 (Ga _) m _ _ rfl (Ag HO (by first|exact Below.refl _ _|exact(Below.refl _ _).alloc nL _) HO.out.lt) (Y (s++eqB++t)) _ rfl hk ?_;intro c hcc _;obtain rfl:=Ef (hcc.symm.trans HA));go_ret;exact⟨Ab HH,by go_grown⟩
theorem dF(k:P.Tr)(hw:P.wf k)(hk:nR k)(h:Int)(m n:Nat)(ks:List BA)(w:World)(ho:w.ownsMap prog 9 (plainElem prog 3) m n (Fy ks))(hs:Hi k) :
  Calls prog 247 #[.agg #[val k,X h],.map (some m)] w (Rt (.bool (!Dd ks k)) w):=by
 have HK:=iH hk;have HO:=iH ho;have HS:=iH hs;obtain⟨ty,q,hv⟩:=Dc hw;rw[hv];have HV:=iH hv;clear ho hk hv hs;go_enter func247,ntmps247;go_wp2_with(refine Dx rfl (.tmp 6) _ #[.tmp 7] #[218] rfl _ rfl #[.map (some m)] (Nk _ _) _ (HK _ ⟨λ_ _=>by kernel_rfl,λ_ _ _=>by kernel_rfl,λ_ _ _ _=>by kernel_rfl,λ_ _ _ _=>by kernel_rfl,λ_ _ _ _ _=>by kernel_rfl,λ_ _ _ _ _=>by kernel_rfl⟩ _ HV m n ks _ (Ag HO ((Below.refl _ _).alloc nL _) HO.out.lt) HS) ?_;rintro u w1 ⟨rfl,hb1⟩);go_ret;exact⟨rfl,((Below.refl _ _).alloc nL _).trans (hb1.mono (by simp))⟩
theorem Xo(s t:P.Tr)(hs:P.wf s)(ht:P.wf t)(hl:nR s)(hr:nR t)(h:Int)(m n:Nat)(ks:List BA)(w:World)(ho:w.ownsMap prog 9 (plainElem prog 3) m n (Fy ks))(hss:Hi s)(hst:Hi t) :
  Calls prog 243 #[.agg #[val s,val t,X h],.map (some m)] w (Rt (.bool (Dd ks s&&Dd ks t)) w):=by
 have HL:=iH hl;have HR:=iH hr;have HO:=iH ho;have HSS:=iH hss;have HST:=iH hst;obtain⟨ty,q,hv⟩:=Dc hs;obtain⟨ty',q',hv'⟩:=Dc ht;rw[hv,hv'];have HV:=iH hv;have HV':Hid (val t=.iface ty' q'):=hv';clear ho hl hr hv hv' hss hst;have HC:Hid (∃b,Dd ks s=b):=⟨_,rfl⟩;obtain⟨bs,hbs⟩:=HC.out;rw[hbs];have HBS:=iH hbs;clear HC hbs;generalize hB2:Dd ks t=bt;have HBT:=iH hB2;clear hB2;go_enter func243,ntmps243;go_upto_region 1 with fail;have hal:=(Below.refl _ w).alloc nL (Obj.cells #[.iface ty q,.iface ty' q',X h] 278);have e0:(w.alloc (Obj.cells #[.iface ty q,.iface ty' q',X h] 278)).cell? (E w.heap.size 0)=some (.iface ty q):=by simp
 have e1:(w.alloc (Obj.cells #[.iface ty q,.iface ty' q',X h] 278)).cell? (E w.heap.size 1)=some (.iface ty' q'):=by simp
 have HO1:=iH (Ag HO hal HO.out.lt);have HB1:=iH hal;clear hal HO;generalize w.alloc (Obj.cells #[.iface ty q,.iface ty' q',X h] 278)=w1 at *;cases bs
 all_goals
  go_wp2_with(first
   |(refine Dx rfl (.tmp 7) _ #[.tmp 8] #[218] rfl _ rfl #[.map (some m)] (Nk _ _) _ (HL _ ⟨λ_ _=>by kernel_rfl,λ_ _ _=>by kernel_rfl,λ_ _ _ _=>by kernel_rfl,λ_ _ _ _=>by kernel_rfl,λ_ _ _ _ _=>by kernel_rfl,λ_ _ _ _ _=>by kernel_rfl⟩ _ HV m n ks _ HO1 HSS) ?_;rintro u w2⟨hu,hb2⟩;rw[HBS.out]at hu;subst hu;have e12:w2.cell? (E w.heap.size 1)=some (.iface ty' q'):=(hb2.cell (p:=(E w.heap.size 1)) (block_lt_of_cell e1)).trans e1;have HO2:Hid (w2.ownsMap prog 9 (plainElem prog 3) m n (Fy ks)):=Ag HO1 hb2 HO1.out.lt;have HB2:Hid (bW w w2):=qTr HB1 hb2;clear hb2)
   |(refine Dx rfl (.tmp 13) _ #[.tmp 14] #[218] rfl _ rfl #[.map (some m)] (Nk _ _) _ (HR _ ⟨λ_ _=>by kernel_rfl,λ_ _ _=>by kernel_rfl,λ_ _ _ _=>by kernel_rfl,λ_ _ _ _=>by kernel_rfl,λ_ _ _ _ _=>by kernel_rfl,λ_ _ _ _ _=>by kernel_rfl⟩ _ HV' m n ks _ HO2 HST) ?_;rintro u w3⟨hu,hb3⟩;rw[HBT.out]at hu;subst hu;have HB3:Hid (bW w w3):=qTr HB2 hb3;clear hb3))
  go_ret
  first
   |exact⟨rfl,HB3⟩
   |exact⟨rfl,HB2⟩
   |exact⟨Ab (by cases bt<;>rfl),HB3⟩
theorem Tb(s t:P.Tr)(hs:P.wf s)(ht:P.wf t)(hl:nR s)(hr:nR t)(h:Int)(m n:Nat)(ks:List BA)(w:World)(ho:w.ownsMap prog 9 (plainElem prog 3) m n (Fy ks))(hss:Hi s)(hst:Hi t) :
  Calls prog 239 #[.agg #[val s,val t,X h],.map (some m)] w (Rt (.bool (Dd ks s||Dd ks t)) w):=by
 have HL:=iH hl;have HR:=iH hr;have HO:=iH ho;have HSS:=iH hss;have HST:=iH hst;obtain⟨ty,q,hv⟩:=Dc hs;obtain⟨ty',q',hv'⟩:=Dc ht;rw[hv,hv'];have HV:=iH hv;have HV':Hid (val t=.iface ty' q'):=hv';clear ho hl hr hv hv' hss hst;have HC:Hid (∃b,Dd ks s=b):=⟨_,rfl⟩;obtain⟨bs,hbs⟩:=HC.out;rw[hbs];have HBS:=iH hbs;clear HC hbs;generalize hB2:Dd ks t=bt;have HBT:=iH hB2;clear hB2;go_enter func239,ntmps239;go_upto_region 1 with fail;have hal:=(Below.refl _ w).alloc nL (Obj.cells #[.iface ty q,.iface ty' q',X h] 276);have e0:(w.alloc (Obj.cells #[.iface ty q,.iface ty' q',X h] 276)).cell? (E w.heap.size 0)=some (.iface ty q):=by simp
 have e1:(w.alloc (Obj.cells #[.iface ty q,.iface ty' q',X h] 276)).cell? (E w.heap.size 1)=some (.iface ty' q'):=by simp
 have HO1:=iH (Ag HO hal HO.out.lt);have HB1:=iH hal;clear hal HO;generalize w.alloc (Obj.cells #[.iface ty q,.iface ty' q',X h] 276)=w1 at *;cases bs
 all_goals
  go_wp2_with(first
   |(refine Dx rfl (.tmp 7) _ #[.tmp 8] #[218] rfl _ rfl #[.map (some m)] (Nk _ _) _ (HL _ ⟨λ_ _=>by kernel_rfl,λ_ _ _=>by kernel_rfl,λ_ _ _ _=>by kernel_rfl,λ_ _ _ _=>by kernel_rfl,λ_ _ _ _ _=>by kernel_rfl,λ_ _ _ _ _=>by kernel_rfl⟩ _ HV m n ks _ HO1 HSS) ?_;rintro u w2⟨hu,hb2⟩;rw[HBS.out]at hu;subst hu;have e12:w2.cell? (E w.heap.size 1)=some (.iface ty' q'):=(hb2.cell (p:=(E w.heap.size 1)) (block_lt_of_cell e1)).trans e1;have HO2:Hid (w2.ownsMap prog 9 (plainElem prog 3) m n (Fy ks)):=Ag HO1 hb2 HO1.out.lt;have HB2:Hid (bW w w2):=qTr HB1 hb2;clear hb2)
   |(refine Dx rfl (.tmp 13) _ #[.tmp 14] #[218] rfl _ rfl #[.map (some m)] (Nk _ _) _ (HR _ ⟨λ_ _=>by kernel_rfl,λ_ _ _=>by kernel_rfl,λ_ _ _ _=>by kernel_rfl,λ_ _ _ _=>by kernel_rfl,λ_ _ _ _ _=>by kernel_rfl,λ_ _ _ _ _=>by kernel_rfl⟩ _ HV' m n ks _ HO2 HST) ?_;rintro u w3⟨hu,hb3⟩;rw[HBT.out]at hu;subst hu;have HB3:Hid (bW w w3):=qTr HB2 hb3;clear hb3))
  go_ret
  first
   |exact⟨rfl,HB3⟩
   |exact⟨rfl,HB2⟩
   |exact⟨Ab (by cases bt<;>rfl),HB3⟩
theorem sE:∀(t:P.Tr),P.wf t->nR t:=by
 refine P.wf_ind ?_ ?_ ?_ ?_ ?_ ?_
 .intro name H x hx m n ks w ho hs
  rw[<-hx.out];exact⟨_,_,H.c0 _ w,(Xr _ w).mono λe w' ⟨he,hb⟩=>⟨_,he,rfl,hb⟩⟩
 .intro s name H x hx m n ks w ho hs
  rw[<-hx.out];exact⟨_,_,H.c1 s _ w,(Xi s m n ks w ho hs.1).mono λe w' ⟨he,hb⟩=>⟨_,he,rfl,hb⟩⟩
 .intro s v name H x hx m n ks w ho hs
  rw[<-hx.out];exact⟨_,_,H.c2 s v _ w,(Te s v m n ks w ho hs.1 hs.2.1).mono λe w' ⟨he,hb⟩=>⟨_,he,rfl,hb⟩⟩
 .intro k hw hk name H x hx m n ks w ho hs
  rw[<-hx.out];exact⟨_,_,H.c3 _ _ _ w,(dF k hw hk _ m n ks w ho hs.2.2.1).mono λe w' ⟨he,hb⟩=>⟨_,he,rfl,hb⟩⟩
 .intro a b ha hb hka hkb name H x hx m n ks w ho hs
  rw[<-hx.out];exact⟨_,_,H.c4 _ _ _ _ w,(Xo a b ha hb hka hkb _ m n ks w ho hs.2.2.1 hs.2.2.2).mono λe w' ⟨he,hb⟩=>⟨_,he,rfl,hb⟩⟩
 intro a b ha hb hka hkb name H x hx m n ks w ho hs;rw[<-hx.out];exact⟨_,_,H.c5 _ _ _ _ w,(Tb a b ha hb hka hkb _ m n ks w ho hs.2.2.1 hs.2.2.2).mono λe w' ⟨he,hb⟩=>⟨_,he,rfl,hb⟩⟩
theorem Zp{ms:List BA}{j:Nat}{u:Value}(h:(ms.map Value.string)[j]?=some u):∃s,ms[j]?=some s/\u=Y s:=by
 rw[List.getElem?_map]at h
 cases e:ms[j]? with
 |none=>rw[e]at h;cases h
 |some s=>rw[e]at h;cases h;exact⟨s,rfl,rfl⟩
theorem Vy(ms:List BA):∀u∈ms.map Value.string,u.oneCell'=true:=by
 intro u hu;obtain⟨x,_,rfl⟩:=List.mem_map.1 hu;rfl
theorem Ms{w:World}{base g cap lo:Nat}{e:TypeId}{ms:List BA}(h:w.ownsRow base e 1 (sP g 0 ms.length cap) ms.length (ms.map Value.string))(hz:∀s∈ms,s.size<=maxLen)(hm:ms.length<=maxLen)(hlo:lo<=base):sX lo w (O g 0) ms:=by
 have hg:=h.lt g rfl;refine⟨hm,.inr ⟨g,0,rfl,⟨by omega,λ_ p=>h.frozenAt p⟩,hg.2,λj x hj=>⟨?_,hz x (List.mem_of_getElem? hj)⟩⟩⟩;have hlt:=Af hj;have:=h.cellAt (j*1+0) (by simp;omega);simp only[Nat.mul_one,Nat.add_zero,List.getElem?_map,hj,Option.map_some]at this;simpa using this
theorem Ut(ms:List BA)(a:OA)(cap lo:Nat)(w:World)(hin:sX lo w a ms)(hml:ms.length<=1000) :
  Calls prog 134 #[.slice a ms.length cap] w λe w'=>∃v,e=.returned v/\w'.ownsRow w.heap.size 9 1 v ms.length (ms.map Value.string)/\bW w w':=by
 obtain⟨i0,hi,hz0,hz1,hz2⟩:=info_parts Hc;have q22:∀(w:World)(a:OA)(n c n' c':Nat),(binOp .eql 47 (.slice a n c) (.slice none n' c')).run prog w=.ok (.bool a.isNone) w:=λw a n c n' c'=>Lib.run_eql_slice_nil w _ _ a n c n' c' underlying47
 have HI:=iH hin;clear hin;go_enter func134,ntmps134
 cases a with
 | none =>
  have hm0:ms=[]:=by
   rcases HI.out.2 with h|⟨b,o,h,_⟩
   .exact h
   cases h
  subst hm0
  go_wp2
  go_ret;exact⟨_,rfl,World.ownsRow_nil _ _ _ _,Below.refl _ _⟩
 | some ad =>
  have HS:Hid (∀j u,(ms.map Value.string)[j]?=some u->w.cell? (ad.add j)=some u):=by
   intro j u hj;obtain⟨s,hs,rfl⟩:=Zp hj;obtain⟨b,o,e,_,_,hc⟩:=HI.out.at hs;cases e
   have:=hc.1;simp only[Nat.mul_one,Nat.add_zero]at this;rw[Addr.add_lit];exact this
  go_wp2_with(at_builtin;refine wpList_append_own _ rfl _ _ 47 rfl w.heap.size 9 i0 (Y ⟨#[]⟩) 1 16 underlying47 hi hz0 hz1 hz2 rfl (by decide) _ _ _ rfl (World.ownsRow_made w #[] 0 nL (zL) rfl) ad ms.length _ (ms.map Value.string) rfl (by simp) (λj u hj=>Lib.cell?_alloc_some _ (HS j u hj)) (Vy ms) (by unfold maxLen;omega) (by omega) (by simp) ?_;intro v' w1 hown hgrow hnil);go_ret;exact⟨v',rfl,by simpa using hown,((Below.refl _ w).alloc nL _).grown hgrow (by simp) (by intro k hk;cases hk;exact Nat.le_refl _)⟩
abbrev Dh:BA:=⟨#[122,111,110,101,61]⟩
def Dp(ms:List BA)(z:BA):List BA:=ms++[Dh++z]
def Ch(t:BA)(ms:List BA)(z:BA):Bool:=decide (Ap t=0)&&Dd (Db (Dp ms z) (Dp ms z).length) (Dl t)
def TwoZ(p:Nat)(l r:Value)(w:World):Prop:=w.cell? (E p 1)=some l/\w.cell? (E p 2)=some r
theorem TwoZ.below{p:Nat}{l r:Value}{w w':World}(h:TwoZ p l r w)(hb:bW w w'):TwoZ p l r w':=⟨(hb.cell (p:=(E p 1)) (block_lt_of_cell h.1)).trans h.1,(hb.cell (p:=(E p 2)) (block_lt_of_cell h.2)).trans h.2⟩
theorem TwoZ.grownZ{p:Nat}{l r v:Value}{w w':World}(h:TwoZ p l r w)(g:w.grownBy w' v.ownBlock)(hn:v.ownBlock≠some p):TwoZ p l r w':=⟨g.cell h.1 (λe=>hn e.symm),g.cell h.2 (λe=>hn e.symm)⟩
theorem lB{P:Program}{ops:Array Oper}{o:Oper}{a:Act}{K:Act->World->Prop}{Q:Exit->Act->World->Prop}{E9:Prop}{w:World}(hg:o.guard=none)(x:Operand)(name:String)(qs:Array Operand)(ts:Array TypeId)(ho:o.op=.call {callee:=.invoke x name,args:=qs,argTypes:=ts})(xv:Value)(hx:a.eval x=xv)(bs:Array Value)(hq:qs.map a.eval=bs)(R:Value->World->Prop)(hm:vP P xv name bs w R)(h:∀u w',R u w'->K (a.put o.dst u) w'):if Region.wanted o (yielded ops a.tmps)=true then Oper.wp P o a w K Q else E9:=by
 rw[if_pos (by simp[Region.wanted,hg])];obtain⟨f,bs',hr,hc⟩:=hm;subst hx;subst hq;have hrun:(execOp a.eval o).run P w=.ok (.enter f bs') w:=by
  unfold execOp;simp only[ho,resolve,invoke,Sem.run_bind,Sem.run_pure,Result.andThen_ok];rw[Sw];simp only[Array.getElem?_append,List.size_toArray,List.length_cons,List.length_nil];simp only[Nat.zero_add,Nat.lt_one_iff,if_true];exact hr
 unfold Oper.wp;rw[hrun,Oper.upon_enter];refine hc.mono ?_;rintro e w' ⟨u,rfl,hR⟩;exact h u w' hR
structure rT (name:String):Prop where
 c0:∀w,(nilAhead (prog.types.size+Made.depth) 259 (.agg #[]) name).run prog w=.ok (some false) w
 c1:∀n w,(nilAhead (prog.types.size+Made.depth) 284 (.agg #[Y n]) name).run prog w=.ok (some false) w
 c2:∀n m w,(nilAhead (prog.types.size+Made.depth) 286 (.agg #[Y n,Y m]) name).run prog w=.ok (some false) w
 c3:∀x h w,(nilAhead (prog.types.size+Made.depth) 280 (.agg #[x,X h]) name).run prog w=.ok (some false) w
 c4:∀x y h w,(nilAhead (prog.types.size+Made.depth) 278 (.agg #[x,y,X h]) name).run prog w=.ok (some false) w
 c5:∀x y h w,(nilAhead (prog.types.size+Made.depth) 276 (.agg #[x,y,X h]) name).run prog w=.ok (some false) w
theorem zM{name:String}(H:rT name){t:P.Tr}(hw:P.wf t){ty:TypeId}{x:Value}(hv:Hid (val t=.iface ty x))(w:World):(nilAhead (prog.types.size+Made.depth) ty x name).run prog w=.ok (some false) w:=by
 have hv:=hv.out;rcases P.wf_cases hw with rfl|⟨n,rfl⟩|⟨n,v,rfl⟩|⟨k,hk,rfl⟩|⟨a,b,ha,hb,rfl⟩|⟨a,b,ha,hb,rfl⟩
 .rw[lU]at hv;cases hv;exact H.c0 w
 .rw[tC]at hv;cases hv;exact H.c1 _ w
 .rw[sG]at hv;cases hv;exact H.c2 _ _ w
 .rw[jT]at hv;cases hv;exact H.c3 _ _ w
 .rw[iJ]at hv;cases hv;exact H.c4 _ _ _ w
 rw[jF]at hv;cases hv;exact H.c5 _ _ _ w
theorem Pg{P:Program}{ρ ρ':Operand->Value}{o:Oper}{x q:Operand}{name:String}{caps:Array Value}{ty:TypeId}{y:Value}(ho:o.op=.nilCheck x)(hx:ρ x=.func (.method name) (#[q].map ρ') caps)(hq:ρ' q=.iface ty y)(hn:∀w,(nilAhead (P.types.size+Made.depth) ty y name).run P w=.ok (some false) w)(w:World):(execOp ρ o).run P w=.ok (.value (.func (.method name) (#[q].map ρ') caps)) w:=by
 have hp:Sem.run P program w=.ok P w:=rfl;unfold execOp;simp[ho,hx,hq,hp,hn,Result.andThen]
theorem Zc{w:World}{base g cap:Nat}{ms:List BA}{z:BA}(h:w.ownsRow base 9 1 (sP g 0 (ms.length+1) cap) (ms.length+1) (ms.map Value.string++[Y (Dh++z)]))(hz:∀s∈ms,s.size<=maxLen)(hs:z.size<=1000)(hl:ms.length<=1000):sX 0 w (O g 0) (Dp ms z):=by
 have hlen:(Dp ms z).length=ms.length+1:=by simp[Dp]
 have hmap:(Dp ms z).map Value.string=ms.map Value.string++[Y (Dh++z)]:=by simp[Dp]
 refine Ms (cap:=cap) (base:=base) (e:=9) ?_ ?_ ?_ (zL)
 .rw[hlen,hmap];exact h
 .intro s hs'
  rcases List.mem_append.1 hs' with h|h
  .exact hz s h
  rw[List.mem_singleton.1 h,ByteArray.size_append];have:Dh.size=5:=rfl;unfold maxLen;omega
 rw[hlen];unfold maxLen;omega
theorem sY{w:World}{sb:Nat}{u:Value}(h:w.cell? (E sb 0)=some u):∀j x,[u][j]?=some x->w.cell? (((E sb 0):Addr).add j)=some x:=by
 intro j x hj
 cases j with
 |zero=>cases hj;rw[Addr.add_lit];exact h
 |succ j=>simp at hj
theorem fL(t nm z:BA)(ms:List BA)(a:OA)(cap lo:Nat)(rm hd:Int)(cl:Bool)(w:World)(hin:sX lo w a ms)(hml:ms.length<=1000)(hz:z.size<=1000)(ht:t.size<=maxLen)(hwf:Ap t=0->P.wf (Dl t))(hsh:Ap t=0->Hi (Dl t))(hsz:∀s∈ms,s.size<=maxLen) :
  Calls prog 187 #[Y t,.agg #[Y nm,Y z,.slice a ms.length cap,X rm,X hd,.bool cl]] w (Rt (.bool (Ch t ms z)) w):=by
 obtain⟨i0,hi,hz0,hz1,hz2⟩:=info_parts Hc;have HI:=iH hin;have HWF:=iH hwf;have HSH:=iH hsh;have HSZ:Hid (∀s∈ms,s.size<=maxLen):=hsz;clear hin hwf hsh hsz;go_enter func187,ntmps187;go_upto_region 1 with fail;have hal:=(Below.refl _ w).alloc nL (Obj.cells #[Y nm,Y z,.slice a ms.length cap,X rm,X hd,.bool cl] 92);have e1:(w.alloc (Obj.cells #[Y nm,Y z,.slice a ms.length cap,X rm,X hd,.bool cl] 92)).cell? (E w.heap.size 1)=some (Y z):=by simp
 have e2:(w.alloc (Obj.cells #[Y nm,Y z,.slice a ms.length cap,X rm,X hd,.bool cl] 92)).cell? (E w.heap.size 2)=some (.slice a ms.length cap):=by simp
 have HI1:=qSl StrC.holds HI hal;have HB1:=iH hal;clear hal HI;generalize(w.alloc (Obj.cells #[Y nm,Y z,.slice a ms.length cap,X rm,X hd,.bool cl] 92))=w1 at *;go_wp2_with fail;refine(eC t _ ht).mono ?_;rintro e w2⟨hr,hb2⟩;have HE1:Hid (w2.cell? (E w.heap.size 1)=some (Y z)):=(hb2.cell (p:=(E w.heap.size 1)) (block_lt_of_cell e1)).trans e1;have HE2:Hid (w2.cell? (E w.heap.size 2)=some (.slice a ms.length cap)):=(hb2.cell (p:=(E w.heap.size 2)) (block_lt_of_cell e2)).trans e2;have HI2:=qSl StrC.holds HI1 hb2;have HB2:=qTH HB1 hb2;clear hb2 e1 e2 HI1 HB1;rcases hr with⟨hc,rfl⟩|⟨hc,q,rfl⟩
 .have HC:Hid (Ap t=0):=hc
  have hw:=HWF.out hc;obtain⟨tyA,x,hv⟩:=Dc hw;rw[hv];have HV:=iH hv;have HW:=iH hw;clear hc hv hw;go_upto_region 5 with fail;have HB3:Hid (bW w w2.drew):=HB2.out.drew;have HI3:Hid (sX lo w2.drew a ms):=HI2.out.below StrC.holds ((Below.refl _ w2).drew) nL;refine wp_region_held_drew (S:=TwoZ w.heap.size (Y z) (.slice a ms.length cap)) (by kernel_rfl) (by simpa[TwoZ]using⟨HE1,HE2⟩) (λhS=>?_);generalize w2.drew=w3 at *;clear HB2 HI2 HE1 HE2;refine x6 0 15 (pP w.heap.size 2) ?_;refine x6 1 16 (.slice a ms.length cap) ?_;refine x6 3 18 (pP w.heap.size 1) ?_;refine x6 4 19 (Y z) ?_;refine ty 5 ⟨some 20,_,_,_,_,none⟩ (Y (Dh++z)) ?_ ?_
  .intro wy hy
   obtain⟨y0,y1⟩:=hy;go_simp;omega
  refine wpAnyH_ready (rs:=[2,6]) (by kernel_rfl) (by simp) (AllReadyH.cons (o:=⟨some 17,_,_,_,_,none⟩) rfl (λK hK=>?_) (AllReadyH.cons (o:=⟨some 21,_,_,_,_,none⟩) rfl (λK hK=>?_) AllReadyH.nil))
  case' _ =>
   go_simp;refine(Ut ms a cap lo _ HI3 hml).mono ?_;rintro e w4⟨v,rfl,ho,hb⟩;have HO4:Hid (w4.ownsRow w.heap.size 9 1 v ms.length (ms.map Value.string)):=World.ownsRow.mono ho HB3.out.size;have HNB4:Hid (∀i,v.ownBlock=some i->w3.heap.size<=i):=λi hi=>(ho.lt i hi).1
   have HB4:=qTH HB3 hb;have HNE:Hid (v.ownBlock≠some w.heap.size):=by
    intro e;have:=HNB4.out _ e;have h2:w.heap.size<w3.heap.size:=block_lt_of_cell hS.1;omega
   refine hK.out _ _ (hS.below hb) (λhS=>?_);clear ho hb HB3 HI3 HNB4;clear hK K;refine rd1 6 ⟨some 21,_,_,_,_,none⟩ rfl (λK hK=>?_);go_simp;have hal:=(Below.refl _ w4).alloc nL (Obj.cells #[Y (Dh++z)] 9);have HB5:=qTH HB4 hal;have HA5:Hid ((w4.alloc (Obj.cells #[Y (Dh++z)] 9)).cell? (E w4.heap.size 0)=some (Y (Dh++z))):=by show _=_;simp
   have HO5:=iH (Ak HO4 hal);have HQ5:Hid (v.ownBlock≠some w4.heap.size):=by
    intro e;have:=(HO4.out.lt _ e).2;omega
   refine hK.out _ _ (hS.below hal) (λhS=>?_);clear hal HB4 HO4;generalize(w4.alloc (Obj.cells #[Y (Dh++z)] 9))=w5 at *;generalize w4.heap.size=sb at *
  rotate_left
  case' _ =>
   go_simp;have hal:=(Below.refl _ w3).alloc nL (Obj.cells #[Y (Dh++z)] 9);have HB4:=qTH HB3 hal;have HA4:Hid ((w3.alloc (Obj.cells #[Y (Dh++z)] 9)).cell? (E w3.heap.size 0)=some (Y (Dh++z))):=by show _=_;simp
   have HI4:=qSl StrC.holds HI3 hal;refine hK.out _ _ (hS.below hal) (λhS=>?_);clear hal HB3 HI3;generalize(w3.alloc (Obj.cells #[Y (Dh++z)] 9))=w4 at *;generalize w3.heap.size=sb at *;clear hK K;refine rd1 2 ⟨some 17,_,_,_,_,none⟩ rfl (λK hK=>?_);go_simp;refine(Ut ms a cap lo _ HI4 hml).mono ?_;rintro e w5⟨v,rfl,ho,hb⟩;have HO5:Hid (w5.ownsRow w.heap.size 9 1 v ms.length (ms.map Value.string)):=World.ownsRow.mono ho HB4.out.size;have HNB5:Hid (∀i,v.ownBlock=some i->w4.heap.size<=i):=λi hi=>(ho.lt i hi).1
   have HB5:=qTH HB4 hb;have HA5:Hid (w5.cell? (E sb 0)=some (Y (Dh++z))):=(hb.cell (p:=(E sb 0)) (block_lt_of_cell HA4)).trans HA4;have HQ5:Hid (v.ownBlock≠some sb):=by
    intro e;have:=HNB5.out _ e;have h2:sb<w4.heap.size:=block_lt_of_cell HA4;omega
   have HNE:Hid (v.ownBlock≠some w.heap.size):=by
    intro e;have:=HNB5.out _ e;have h2:w.heap.size<w4.heap.size:=block_lt_of_cell hS.1;omega
   refine hK.out _ _ (hS.below hb) (λhS=>?_);clear ho hb HB4 HI4 HNB5 HA4
  rotate_left
  all_goals
   clear hK K;refine rd1 7 ⟨some 22,_,_,_,_,none⟩ rfl (λK hK=>?_);refine step_append_lies _ (by rfl) (.tmp 17) (.tmp 21) 47 (by rfl) w.heap.size 9 i0 _ 1 16 underlying47 hi hz0 hz1 hz2 (by rfl) (by decide) v ms.length _ (by rfl) HO5 (E sb 0) 1 1 [Y (Dh++z)] (by rfl) (by rfl) (sY HA5) (by intro u hu;rw[List.mem_singleton.1 hu];rfl) (by omega) (by unfold maxLen;omega) (by omega) HB5.out.size w5.heap.size rfl ?_;intro g cap2 w9 hown hgrow hto hgl;have HO9:=iH hown;have HB9:Hid (bW w w9):=HB5.out.grown hgrow HB5.out.size (λi hi=>(HO5.out.lt i hi).1);have hS9:TwoZ w.heap.size (Y z) (.slice a ms.length cap) w9:=TwoZ.grownZ hS hgrow HNE;refine hK.out _ _ hS9 (λhS=>?_);clear hK K hown hgrow hto HO5 HB5 HA5 hS9;simp only[pX];refine x6 8 7 ((sP g 0 (ms.length+1) cap2)) ?_;refine td ?_;have HZ9:Hid (sX 0 w9 (O g 0) (Dp ms z)):=Zc HO9 HSZ hz hml;have hlen:ms.length+1=(Dp ms z).length:=by simp[Dp]
   rw[hlen];have hzl:(Dp ms z).length<=1048576:=by rw[<-hlen];omega
   have HR:Hid (Dd (Db (Dp ms z) (Dp ms z).length) (Dl t)=Ch t ms z):=by show _=_;unfold Ch;rw[decide_eq_true HC.out];rfl
   clear hlen HO9 hS HNE HQ5 hgl;generalize Dp ms z=Z at *;go_upto_region 6 with fail;have HB10:Hid (bW w w9.drew):=HB9.out.drew;have HZ10:Hid (sX 0 w9.drew (O g 0) Z):=HZ9.out.below StrC.holds ((Below.refl _ w9).drew) nL;refine wp_region_held_drew (S:=λ_=>True) (by kernel_rfl) trivial (λhS=>?_);generalize w9.drew=w10 at *;clear HB9 HZ9;refine tk 0 ⟨some 23,_,_,_,_,none⟩ (.iface tyA x) rfl (Or.inl ⟨by rfl,λ_ _=>rfl⟩) hS ?_;refine tk 1 ⟨some 24,_,_,_,_,none⟩ (sP g 0 Z.length cap2) rfl (Or.inl ⟨by rfl,λ_ _=>rfl⟩) hS ?_;refine tk 3 ⟨some 26,_,_,_,_,none⟩ _ rfl (Or.inl ⟨by rfl,λ_ _=>rfl⟩) hS ?_;refine tk 4 ⟨some 27,_,_,_,_,none⟩ _ rfl (Or.inl ⟨by rfl,λwy _=>Pg rfl rfl rfl (λw=>zM ⟨λ_=>by kernel_rfl,λ_ _=>by kernel_rfl,λ_ _ _=>by kernel_rfl,λ_ _ _=>by kernel_rfl,λ_ _ _ _=>by kernel_rfl,λ_ _ _ _=>by kernel_rfl⟩ HW HV w) wy⟩) hS ?_;refine tk 5 ⟨some 28,_,_,_,_,none⟩ (.iface tyA x) rfl (Or.inl ⟨by rfl,λ_ _=>rfl⟩) hS ?_;refine rd1 2 ⟨some 25,_,_,_,_,none⟩ rfl (λK hK=>?_);go_simp;refine(Sr Z _ cap2 0 _ HZ10 hzl).mono ?_;rintro e w11⟨m,n,rfl,hom,hb⟩;have HM:=iH hom;have HB11:=qTH HB10 hb;refine hK.out _ _ trivial (λhS=>?_);clear hom hb HZ10 HB10 hK K;refine rd1 6 ⟨some 29,_,_,_,_,none⟩ rfl (λK hK=>?_);refine lB (by rfl) (.tmp 28) _ #[.tmp 25] #[218] (by rfl) _ (by rfl) #[.map (some m)] (Nk _ _) _ (sE _ HW _ ⟨λ_ _=>by kernel_rfl,λ_ _ _=>by kernel_rfl,λ_ _ _ _=>by kernel_rfl,λ_ _ _ _=>by kernel_rfl,λ_ _ _ _ _=>by kernel_rfl,λ_ _ _ _ _=>by kernel_rfl⟩ _ HV m n _ _ HM (HSH HC)) ?_;rintro u w12⟨rfl,hb⟩;rw[HR.out];have HB12:=qTH HB11 hb;refine hK.out _ _ trivial (λhS=>?_);clear hb HB11 HM hK K;refine tk 7 ⟨some 4,_,_,_,_,none⟩ (.bool (Ch t ms z)) rfl (Or.inl ⟨by rfl,λ_ _=>rfl⟩) hS ?_;refine td ?_
   go_wp2
   go_ret;exact⟨rfl,HB12⟩
 have HF:Hid (false=Ch t ms z):=by show _=_;unfold Ch;rw[decide_eq_false hc];rfl
 clear hc
 go_wp2
 go_ret;exact⟨Ab HF,HB2⟩
end Go.Proofs.YthboopnmbglkjaaGreat
