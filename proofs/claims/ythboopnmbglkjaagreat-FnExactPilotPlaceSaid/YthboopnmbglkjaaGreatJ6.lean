import Derived.Test.YthboopnmbglkjaaGreatJ5
import Derived.Test.YthboopnmbglkjaaGreatTk3
set_option maxHeartbeats 1000000
set_option maxRecDepth 100000
namespace Go.Proofs.YthboopnmbglkjaaGreat
open Go.RowKit Tryz
theorem CK{a b:BA}(h:a=b):Ending.returned (Y a)=.returned (Y b):=by rw[h]
theorem Gs(c:UInt8)(w:World) :
  Calls prog 79 #[.int .u8 c.toNat] w λe w'=>e=.returned (.bool (P.letter c))/\w'=w:=by
 have hc:c.toNat<256:=c.toNat_lt;have hn:P.letter c=decide (97<=c.toNat/\c.toNat<=122\/48<=c.toNat/\c.toNat<=57\/c.toNat=45\/c.toNat=95):=rfl;generalize P.letter c=L at hn;generalize c.toNat=n at *;have HH:=iH hn;clear hn;go_enter func79,ntmps79
 go_wp2
 all_goals go_ret
 all_goals refine⟨Ab ?_,rfl⟩
 all_goals rw[HH.out,Bool.eq_iff_iff]
 all_goals simp
 all_goals omega
theorem Lq(c:UInt8)(w:World) :
  Calls prog 153 #[.int .u8 c.toNat] w λe w'=>e=.returned (.bool (P.letter c))/\w'=w:=by
 have hc:c.toNat<256:=c.toNat_lt;have hn:P.letter c=decide (97<=c.toNat/\c.toNat<=122\/48<=c.toNat/\c.toNat<=57\/c.toNat=45\/c.toNat=95):=rfl;generalize P.letter c=L at hn;generalize c.toNat=n at *;have HH:=iH hn;clear hn;go_enter func153,ntmps153
 go_wp2
 all_goals go_ret
 all_goals refine⟨Ab ?_,rfl⟩
 all_goals rw[HH.out,Bool.eq_iff_iff]
 all_goals simp
 all_goals omega
def inB(n lo hi:Int):Bool:=decide (lo<=n/\n<=hi)
theorem Fe(n lo hi:Int)(w:World) :
  Calls prog 45 #[X n,X lo,X hi] w λe w'=>e=.returned (.bool (inB n lo hi))/\w'=w:=by
 have HH:Hid (inB n lo hi=decide (lo<=n/\n<=hi)):=rfl;generalize inB n lo hi=L at *;go_enter func45,ntmps45
 go_wp2
 all_goals go_ret
 all_goals refine⟨Ab ?_,rfl⟩
 all_goals rw[HH.out,Bool.eq_iff_iff]
 all_goals simp
 all_goals omega
theorem Zt(s:BA)(k:Nat)(h:k<s.size):s.data.toList.take (k+1)=s.data.toList.take k++[s[k]]:=by
 rw[List.take_succ_eq_append_getElem (by simpa using h)];rfl
theorem aB{s:BA}{k:Nat}(h:k<s.size)(hl:P.letter s[k]=false):P.nameOk s=false:=by
 unfold P.nameOk;have:s.data.toList.all P.letter=false:=by
  rw[List.all_eq_false];exact⟨s[k],by simp[ByteArray.getElem_eq_getElem_data],by simp[hl]⟩
 rw[this,Bool.and_false]
theorem So{s:BA}(h:¬(1<=s.size/\s.size<=20)):P.nameOk s=false:=by
 unfold P.nameOk;rw[decide_eq_false h,Bool.false_and]
theorem Wk{s:BA}(h:1<=s.size/\s.size<=20)(hl:(s.data.toList.take s.size).all P.letter=true):P.nameOk s=true:=by
 unfold P.nameOk;rw[List.take_of_length_le (by simp)]at hl;rw[decide_eq_true h,hl];rfl
theorem Bj(s:BA)(w:World)(hs:s.size<=maxLen) :
  Calls prog 44 #[Y s] w λe w'=>e=.returned (.bool (P.nameOk s))/\w'=w:=by
 unfold maxLen at hs;by_cases hsz:1<=s.size/\s.size<=20
 .obtain⟨h1,h2⟩:=hsz
  have hin:inB s.size 1 20=true:=by unfold inB;simp;omega
  go_enter func44,ntmps44;go_wp2_with(go_at_call 45;refine(Fe _ _ _ _).mono ?_;rintro e w' ⟨rfl,rfl⟩;rw[hin])
  go_loop [3] (λi=>∃k:Nat,k<=s.size/\i=X k/\(s.data.toList.take k).all P.letter=true) (λi=>s.size-(intOf i).toNat)
  case atStart=>exact⟨0,zL,rfl,rfl⟩
  obtain⟨k,hk,rfl,hall⟩:=hrel;have HA:=iH hall;clear hall;by_cases hlt:k<s.size
  .cases hL:P.letter s[k]with
   |false =>
    have HN:Hid (P.nameOk s=false):=aB hlt hL;have HL:=iH hL;clear hL;go_wp2_with(go_at_call 79;refine(Gs _ _).mono ?_;rintro e w' ⟨rfl,rfl⟩;rw[HL.out]);go_ret;exact⟨Ab HN.out.symm,rfl⟩
   | true =>
    have HL:=iH hL;clear hL;have HT:Hid ((s.data.toList.take (k+1)).all P.letter=true):=by
     show _=true
     rw[Zt s k hlt,List.all_append,HA.out];simp[HL.out]
    go_wp2_with(go_at_call 79;refine(Gs _ _).mono ?_;rintro e w' ⟨rfl,rfl⟩;rw[HL.out])
    go_round
    case rel=>exact⟨k+1,by omega,by go_num,HT⟩
    simp[intOf];omega
  go_wp2
  go_ret;have hke:k=s.size:=by omega
  exact⟨Ab (Wk ⟨h1,h2⟩ (by rw[<-hke];exact HA.out)).symm,rfl⟩
 have hin:inB s.size 1 20=false:=by unfold inB;simp;omega
 have HN:Hid (P.nameOk s=false):=So hsz;clear hsz;go_enter func44,ntmps44;go_wp2_with(go_at_call 45;refine(Fe _ _ _ _).mono ?_;rintro e w' ⟨rfl,rfl⟩;rw[hin]);go_ret;exact⟨Ab HN.out.symm,rfl⟩
theorem Ci(s:BA)(w:World)(hs:s.size<=maxLen) :
  Calls prog 128 #[Y s] w λe w'=>e=.returned (.bool (P.nameOk s))/\w'=w:=by
 unfold maxLen at hs;by_cases hsz:1<=s.size/\s.size<=20
 .obtain⟨h1,h2⟩:=hsz
  go_enter func128,ntmps128;go_wp2_with fail
  go_loop [14] (λi=>∃k:Nat,k<=s.size/\i=X k/\(s.data.toList.take k).all P.letter=true) (λi=>s.size-(intOf i).toNat)
  case atStart=>exact⟨0,zL,rfl,rfl⟩
  obtain⟨k,hk,rfl,hall⟩:=hrel;have HA:=iH hall;clear hall;by_cases hlt:k<s.size
  .cases hL:P.letter s[k]with
   |false =>
    have HN:Hid (P.nameOk s=false):=aB hlt hL;have HL:=iH hL;clear hL;go_wp2_with(go_at_call 153;refine(Lq _ _).mono ?_;rintro e w' ⟨rfl,rfl⟩;rw[HL.out]);go_ret;exact⟨Ab HN.out.symm,rfl⟩
   | true =>
    have HL:=iH hL;clear hL;have HT:Hid ((s.data.toList.take (k+1)).all P.letter=true):=by
     show _=true
     rw[Zt s k hlt,List.all_append,HA.out];simp[HL.out]
    go_wp2_with(go_at_call 153;refine(Lq _ _).mono ?_;rintro e w' ⟨rfl,rfl⟩;rw[HL.out])
    go_round
    case rel=>exact⟨k+1,by omega,by go_num,HT⟩
    simp[intOf];omega
  go_wp2
  go_ret;have hke:k=s.size:=by omega
  exact⟨Ab (Wk ⟨h1,h2⟩ (by rw[<-hke];exact HA.out)).symm,rfl⟩
 have HN:Hid (P.nameOk s=false):=So hsz;rcases(show(s.size:Int)<1\/(20:Int)<s.size by omega)with hlt|hlt
 all_goals
  clear hsz;go_enter func128,ntmps128
  go_wp2
  go_ret;exact⟨Ab HN.out.symm,rfl⟩
def vP(P:Program)(x:Value)(name:String)(args:Array Value)(w:World)(R:Value->World->Prop):Prop :=
 ∃f bs,(callMethod x name args).run P w=.ok (.enter f bs) w/\Calls P f bs w λe w'=>∃u,e=.returned u/\R u w'
theorem Sw(x:Value)(qs:Array Value):(#[x]++qs).extract 1 (#[x]++qs).size=qs:=by
 apply Array.ext_getElem?;intro i;rw[Array.getElem?_extract];simp only[Array.size_append,List.size_toArray,List.length_cons,List.length_nil]
 split
 .rw[Array.getElem?_append_right (by simp)]
  congr 1
  simp
 rw[Array.getElem?_eq_none];omega
theorem Pc(f:Operand->Value):(#[]:Array Operand).map f=#[]:=by simp
theorem Nk(f:Operand->Value)(x:Operand):#[x].map f=#[f x]:=by simp
theorem Dx{P:Program}{ops:Array Oper}{rest:List Oper}{o:Oper}{a:Act}{Q:Exit->Act->World->Prop}{w:World}(hw:Region.wanted o (yielded ops a.tmps)=true)(x:Operand)(name:String)(qs:Array Operand)(ts:Array TypeId)(ho:o.op=.call {callee:=.invoke x name,args:=qs,argTypes:=ts})(xv:Value)(hx:a.eval x=xv)(bs:Array Value)(hq:qs.map a.eval=bs)(R:Value->World->Prop)(hm:vP P xv name bs w R)(h:∀u w',R u w'->wpList P ops Q rest (a.put o.dst u) w'):wpList P ops Q (o::rest) a w:=by
 refine wpList_step λK hK=>?_
 rw[if_pos hw];obtain⟨f,bs',hr,hc⟩:=hm;subst hx;subst hq;have hrun:(execOp a.eval o).run P w=.ok (.enter f bs') w:=by
  unfold execOp;simp only[ho,resolve,invoke,Sem.run_bind,Sem.run_pure,Result.andThen_ok];rw[Sw];simp only[Array.getElem?_append,List.size_toArray,List.length_cons,List.length_nil];simp only[Nat.zero_add,Nat.lt_one_iff,if_true];exact hr
 unfold Oper.wp;rw[hrun,Oper.upon_enter];refine hc.mono ?_;rintro e w' ⟨u,rfl,hR⟩;exact hK _ _ (h u w' hR)
def Xp(a b:P.Tr):Int:=((max (P.tall a) (P.tall b)+1:Nat):Int)
def val:P.Tr->Value
 |.nil=>.nilIface
 |.node b _ p l r =>
  if b=0 then .iface 259 (.agg #[])
  else if b=1 then .iface 284 (.agg #[Y p.1])
  else if b=2 then .iface 286 (.agg #[Y p.1,Y p.2])
  else if b=3 then .iface 280 (.agg #[val l,X ((P.tall l:Int)+1)])
  else if b=4 then .iface 278 (.agg #[val l,val r,X (Xp l r)])
  else .iface 276 (.agg #[val l,val r,X (Xp l r)])
theorem lU:val P.nonT=.iface 259 (.agg #[]):=rfl
theorem tC(n:BA):val (P.nmT n)=.iface 284 (.agg #[Y n]):=rfl
theorem sG(n v:BA):val (P.vlT n v)=.iface 286 (.agg #[Y n,Y v]):=rfl
theorem jT(k:P.Tr):val (P.ntT k)=.iface 280 (.agg #[val k,X ((P.tall k:Int)+1)]):=rfl
theorem iJ(a b:P.Tr):val (P.anT a b)=.iface 278 (.agg #[val a,val b,X (Xp a b)]):=rfl
theorem jF(a b:P.Tr):val (P.orT a b)=.iface 276 (.agg #[val a,val b,X (Xp a b)]):=rfl
theorem Lb(w:World):Calls prog 232 #[.agg #[]] w (Rt (X 0) w):=by
 go_enter func232,ntmps232
 go_wp2
 go_ret;exact⟨rfl,by go_grown⟩
theorem gW(x:Value)(h:Int)(w:World):Calls prog 249 #[.agg #[x,X h]] w (Rt (X h) w):=by
 go_enter func249,ntmps249
 go_wp2
 go_ret;exact⟨rfl,by go_grown⟩
theorem Pw(x y:Value)(h:Int)(w:World):Calls prog 236 #[.agg #[x,y,X h]] w (Rt (X h) w):=by
 go_enter func236,ntmps236
 go_wp2
 go_ret;exact⟨rfl,by go_grown⟩
structure rV (name:String):Prop where
 c0:∀w,(callMethod (.iface 259 (.agg #[])) name #[]).run prog w=.ok (.enter 232 #[.agg #[]]) w
 c1:∀n w,(callMethod (.iface 284 (.agg #[Y n])) name #[]).run prog w=.ok (.enter 232 #[.agg #[]]) w
 c2:∀n v w,(callMethod (.iface 286 (.agg #[Y n,Y v])) name #[]).run prog w=.ok (.enter 232 #[.agg #[]]) w
 c3:∀x h w,(callMethod (.iface 280 (.agg #[x,X h])) name #[]).run prog w=.ok (.enter 249 #[.agg #[x,X h]]) w
 c4:∀x y h w,(callMethod (.iface 278 (.agg #[x,y,X h])) name #[]).run prog w=.ok (.enter 236 #[.agg #[x,y,X h]]) w
 c5:∀x y h w,(callMethod (.iface 276 (.agg #[x,y,X h])) name #[]).run prog w=.ok (.enter 236 #[.agg #[x,y,X h]]) w
theorem Dc{t:P.Tr}(hw:P.wf t):∃ty v,val t=.iface ty v:=by
 rcases P.wf_cases hw with rfl|⟨n,rfl⟩|⟨n,v,rfl⟩|⟨k,hk,rfl⟩|⟨a,b,ha,hb,rfl⟩|⟨a,b,ha,hb,rfl⟩
 .exact⟨_,_,lU⟩
 .exact⟨_,_,tC _⟩
 .exact⟨_,_,sG _ _⟩
 .exact⟨_,_,jT _⟩
 .exact⟨_,_,iJ _ _⟩
 exact⟨_,_,jF _ _⟩
theorem Nq{name:String}(H:rV name){t:P.Tr}(hw:P.wf t){x:Value}(hx:Hid (val t=x))(w:World):vP prog x name #[] w λu w'=>u=X (P.tall t:Int)/\bW w w':=by
 rw[<-hx.out];rcases P.wf_cases hw with rfl|⟨n,rfl⟩|⟨n,v,rfl⟩|⟨k,hk,rfl⟩|⟨a,b,ha,hb,rfl⟩|⟨a,b,ha,hb,rfl⟩
 .exact⟨_,_,H.c0 w,(Lb w).mono λe w' ⟨he,hb⟩=>⟨_,he,rfl,hb⟩⟩
 .exact⟨_,_,H.c1 n w,(Lb w).mono λe w' ⟨he,hb⟩=>⟨_,he,rfl,hb⟩⟩
 .exact⟨_,_,H.c2 n v w,(Lb w).mono λe w' ⟨he,hb⟩=>⟨_,he,rfl,hb⟩⟩
 .refine⟨_,_,H.c3 _ _ w,(gW _ _ w).mono λe w' ⟨he,hb⟩=>⟨_,he,?_,hb⟩⟩
  rw[P.tall_nt];congr 1
 .exact⟨_,_,H.c4 _ _ _ w,(Pw _ _ _ w).mono λe w' ⟨he,hb⟩=>⟨_,he,rfl,hb⟩⟩
 exact⟨_,_,H.c5 _ _ _ w,(Pw _ _ _ w).mono λe w' ⟨he,hb⟩=>⟨_,he,rfl,hb⟩⟩
theorem kH(t:P.Tr)(hw:P.wf t)(ht:P.tall t<=1000)(w:World) :
  Calls prog 211 #[val t] w (Rt (val (P.ntT t)) w):=by
 rw[jT];obtain⟨ty,v,hv⟩:=Dc hw;rw[hv];have HV:=iH hv;clear hv;go_enter func211,ntmps211;go_wp2_with(refine Dx rfl (.tmp 4) _ #[] #[] rfl _ rfl #[] (Pc _) _ (Nq ⟨λ_=>by kernel_rfl,λ_ _=>by kernel_rfl,λ_ _ _=>by kernel_rfl,λ_ _ _=>by kernel_rfl,λ_ _ _ _=>by kernel_rfl,λ_ _ _ _=>by kernel_rfl⟩ hw HV _) ?_;rintro u w1 ⟨rfl,hb⟩);go_ret;exact⟨rfl,hb⟩
theorem kI{w w1 w2:World}(hb:Below (w.alloc (Obj.cells #[Value.nilIface,Value.nilIface,Value.int IntKind.i64 0] 273)).heap.size (w.alloc (Obj.cells #[Value.nilIface,Value.nilIface,Value.int IntKind.i64 0] 273)) w1)(hb2:bW w1 w2):w2.cell? (E w.heap.size 0)=some .nilIface/\w2.cell? (E w.heap.size 1)=some .nilIface/\w2.cell? (E w.heap.size 2)=some (X 0) /\
   w2.frozen? (E w.heap.size 0)=false/\w2.frozen? (E w.heap.size 1)=false/\w2.frozen? (E w.heap.size 2)=false:=by
 have B:=qTr hb hb2;have hlt:w.heap.size<(w.alloc (Obj.cells #[Value.nilIface,Value.nilIface,Value.int IntKind.i64 0] 273)).heap.size:=by simp
 refine⟨?_,?_,?_,?_,?_,?_⟩
 .rw[B.cell (p:=(E w.heap.size 0)) hlt];simp
 .rw[B.cell (p:=(E w.heap.size 1)) hlt];simp
 .rw[B.cell (p:=(E w.heap.size 2)) hlt];simp
 .rw[B.frozen (p:=(E w.heap.size 0)) hlt];simp
 .rw[B.frozen (p:=(E w.heap.size 1)) hlt];simp
 rw[B.frozen (p:=(E w.heap.size 2)) hlt];simp
theorem Xh(s t:P.Tr)(hs:P.wf s)(ht:P.wf t)(hs':P.tall s<=1000)(ht':P.tall t<=1000)(w:World) :
  Calls prog 210 #[val s,val t] w (Rt (.agg #[val s,val t,X (Xp s t)]) w):=by
 obtain⟨ty,v,hv⟩:=Dc hs;obtain⟨ty',v',hv'⟩:=Dc ht;rw[hv,hv'];have HV:=iH hv;have HV':Hid (val t=.iface ty' v'):=hv';clear hv hv';have e:Hid (Xp s t=max ((P.tall s:Nat):Int) ((P.tall t:Nat):Int)+1):=by show _=_;unfold Xp;omega
 by_cases hlt:P.tall s<P.tall t
 all_goals
  go_enter func210,ntmps210
  go_wp2_with(first
   |(refine Dx rfl (.tmp 7) _ #[] #[] rfl _ rfl #[] (Pc _) _ (Nq ⟨λ_=>by kernel_rfl,λ_ _=>by kernel_rfl,λ_ _ _=>by kernel_rfl,λ_ _ _=>by kernel_rfl,λ_ _ _ _=>by kernel_rfl,λ_ _ _ _=>by kernel_rfl⟩ hs HV _) ?_;rintro u w1 ⟨rfl,hb⟩)
   |(refine Dx rfl (.tmp 9) _ #[] #[] rfl _ rfl #[] (Pc _) _ (Nq ⟨λ_=>by kernel_rfl,λ_ _=>by kernel_rfl,λ_ _ _=>by kernel_rfl,λ_ _ _=>by kernel_rfl,λ_ _ _ _=>by kernel_rfl,λ_ _ _ _=>by kernel_rfl⟩ ht HV' _) ?_;rintro u w2⟨rfl,hb2⟩;obtain⟨c0,c1,c2,f0,f1,f2⟩:=kI hb hb2))
  have hB:bW w w2:=((Below.refl _ w).alloc nL _).trans ((qTr hb hb2).mono (by simp));refine bodyPost_ret (v:=.agg #[.iface ty v,.iface ty' v',X (Xp s t)]) ?_ rfl ⟨rfl,?_⟩
  .first
    |(rw[show Xp s t=(P.tall t:Int)+1 by rw[e.out];omega];simp[results,Tryz.results210,go_sem,c0,c1,c2];done)
    |(rw[show Xp s t=(P.tall s:Int)+1 by rw[e.out];omega];simp[results,Tryz.results210,go_sem,c0,c1,c2];done)
  .exact((hB.setCell nL _).setCell nL _).setCell nL _
theorem aW(s t:P.Tr)(hs:P.wf s)(ht:P.wf t)(hs':P.tall s<=1000)(ht':P.tall t<=1000)(w:World) :
  Calls prog 209 #[val s,val t] w (Rt (val (P.anT s t)) w):=by
 rw[iJ];obtain⟨ty,v,hv⟩:=Dc hs;obtain⟨ty',v',hv'⟩:=Dc ht;have c:=λw=>Xh s t hs ht hs' ht' w
 rw[hv,hv']at c;rw[hv,hv'];have C:Hid _:=c;clear c hv hv';go_enter func209,ntmps209;go_wp2_with fail;refine(C _).mono ?_;rintro e w1⟨rfl,hb⟩
 go_wp2
 go_ret;exact⟨rfl,hb⟩
theorem Va(s t:P.Tr)(hs:P.wf s)(ht:P.wf t)(hs':P.tall s<=1000)(ht':P.tall t<=1000)(w:World) :
  Calls prog 203 #[val s,val t] w (Rt (val (P.orT s t)) w):=by
 rw[jF];obtain⟨ty,v,hv⟩:=Dc hs;obtain⟨ty',v',hv'⟩:=Dc ht;have c:=λw=>Xh s t hs ht hs' ht' w
 rw[hv,hv']at c;rw[hv,hv'];have C:Hid _:=c;clear c hv hv';go_enter func203,ntmps203;go_wp2_with fail;refine(C _).mono ?_;rintro e w1⟨rfl,hb⟩
 go_wp2
 go_ret;exact⟨rfl,hb⟩
end Go.Proofs.YthboopnmbglkjaaGreat
namespace Go.Proofs.YthboopnmbglkjaaGreat.P
open Tryz
def onto(c:UInt8):List UInt8->List (List UInt8)->List (List UInt8)
 |d::_,h::t=>if letter d=true then(c::h)::t else [c]::h::t
 |[],ts=>[c]::ts
 |_::_,[]=>[[c]]
def toks:List UInt8->List (List UInt8)
 |[]=>[]
 |c::r=>if c=32 then toks r else if letter c=true then onto c r (toks r)else [c]::toks r
theorem BS:toks []=[]:=rfl
theorem toks_cons(c:UInt8)(r:List UInt8):toks (c::r)=if c=32 then toks r else if letter c=true then onto c r (toks r)else [c]::toks r:=rfl
theorem toks_blank(r:List UInt8):toks (32::r)=toks r:=by rw[toks_cons,if_pos rfl]
theorem toks_sign{c:UInt8}(r:List UInt8)(h:c≠32)(hl:letter c=false):toks (c::r)=[c]::toks r:=by rw[toks_cons,if_neg h];simp[hl]
theorem Pn:letter 32=false:=by decide
def stops:List UInt8->Prop
 |[]=>True
 |d::_=>letter d=false
theorem uY{c:UInt8}{r:List UInt8}(hc:letter c=true)(hr:stops r):toks (c::r)=[c]::toks r:=by
 have h32:c≠32:=λe=>by rw[e,Pn]at hc;cases hc
 rw[toks_cons,if_neg h32,if_pos hc]
 cases r with
 |nil=>rfl
 |cons d t =>
  have hd:letter d=false:=hr
  cases h:toks (d::t)with
  |nil=>rfl
  |cons a b=>simp[onto,hd]
theorem toks_run:∀(l:List UInt8)(r:List UInt8),l≠[]->(∀c∈l,letter c=true)->stops r->toks (l++r)=l::toks r
 |[],_,h,_,_=>absurd rfl h
 |[c],r,_,hl,hr=>uY (hl c (by simp)) hr
 |c::d::l,r,_,hl,hr=>by
  have ih:=toks_run (d::l) r (by simp) (λx hx=>hl x (by simp[hx])) hr;have hc:=hl c (by simp);have hd:=hl d (by simp);have h32:c≠32:=λe=>by rw[e,Pn]at hc;cases hc
  show toks (c::(d::l++r))=_
  rw[toks_cons,if_neg h32,if_pos hc,ih];simp[onto,hd]
def bts(l:List UInt8):BA:=⟨l.toArray⟩
def nmB(t:List UInt8):Bool:=decide (1<=t.length/\t.length<=20)&&t.all letter
theorem nmB_eq(t:List UInt8):nameOk (bts t)=nmB t:=by
 unfold nameOk nmB bts;simp[ByteArray.size]
def tk(s:UInt8):List (List UInt8)->Option (List (List UInt8))
 |[]=>none
 |t::r=>if t=[s]then some r else none
def nm:List (List UInt8)->Option (List UInt8×List (List UInt8))
 |[]=>none
 |t::r=>if nmB t=true then some (t,r)else none
def markT(l:List (List UInt8)):Option (Tr×List (List UInt8)) :=
 match nm l with
 |none=>none
 | some (n,r)=>match tk 61 r with
  |none=>some (nmT (bts n),r)
  |some r'=>match nm r' with
   |none=>none
   |some (v,r'')=>some (vlT (bts n) (bts v),r'')
def rd:Nat->Nat->Tr->List (List UInt8)->Option (Tr×List (List UInt8))
 |0,_,_,_=>none
 | f+1,0,_,l=>match tk 33 l with
  |some r=>match rd f 0 nonT r with
   |none=>none
   |some (y,r')=>some (ntT y,r')
  | none=>match tk 40 l with
   | some r=>match rd f 2 nonT r with
    |none=>none
    |some (y,r')=>match tk 41 r' with
     |none=>none
     |some r''=>some (y,r'')
   |none=>markT l
 |f+1,1,_,l=>match rd f 0 nonT l with
  |none=>none
  |some (y,r)=>rd f 3 y r
 |f+1,2,_,l=>match rd f 1 nonT l with
  |none=>none
  |some (y,r)=>rd f 4 y r
 | f+1,3,x,l=>match tk 38 l with
  |none=>some (x,l)
  |some r=>match rd f 0 nonT r with
   |none=>none
   |some (y,r')=>rd f 3 (anT x y) r'
 | f+1,_+4,x,l=>match tk 124 l with
  |none=>some (x,l)
  |some r=>match rd f 1 nonT r with
   |none=>none
   |some (y,r')=>rd f 4 (orT x y) r'
theorem tk_some{s:UInt8}{l r:List (List UInt8)}(h:tk s l=some r):l=[s]::r:=by
 cases l with
 |nil=>cases h
 |cons t q =>
  have h':(if t=[s]then some q else none)=some r:=h
  split at h'
  .next e=>injection h' with h';rw[e,h']
  cases h'
theorem nm_some{l r:List (List UInt8)}{n:List UInt8}(h:nm l=some (n,r)):l=n::r/\nmB n=true:=by
 cases l with
 |nil=>cases h
 |cons t q =>
  have h':(if nmB t=true then some (t,q)else none)=some (n,r):=h
  split at h'
  .next e=>injection h' with h';injection h' with h1 h2;subst h1 h2;exact⟨rfl,e⟩
  cases h'
theorem tk_len{s:UInt8}{l r:List (List UInt8)}(h:tk s l=some r):r.length+1=l.length:=by rw[tk_some h];rfl
def Rd(x:Tr)(l:List (List UInt8))(m:Nat)(y:Tr)(r:List (List UInt8)):Prop :=
 r.length<=l.length/\(m<=2->r.length<l.length)/\wf y/\good y/\count y+r.length<=l.length+(if m<=2 then 0 else count x)/\tall y<count y
theorem xK{l r:List (List UInt8)}{y:Tr}(h:markT l=some (y,r))(x:Tr)(m:Nat)(hm:m<=2):Rd x l m y r:=by
 unfold markT at h
 split at h
 .cases h
 next n q hn =>
 obtain⟨e1,e2⟩:=nm_some hn;have p1:=nameOk_pos ((nmB_eq n).trans e2)
 split at h
 .injection h with h;injection h with h1 h2;subst h1 h2
  subst e1;refine⟨by simp,λ_=>by simp,yI _,by rw[xP];exact p1,?_,?_⟩
  .rw[Ue,if_pos hm];simp;omega
  rw[tall_nm,Ue];omega
 next q' hq =>
 split at h
 .cases h
 next v r' hv =>
 obtain⟨e3,e4⟩:=nm_some hv;have p2:=nameOk_pos ((nmB_eq v).trans e4);injection h with h;injection h with h1 h2;subst h1 h2;have:=tk_some hq;subst this;subst e1 e3;refine⟨by simp;omega,λ_=>by simp;omega,yQ _ _,by rw[yH];exact⟨p1,p2⟩,?_,?_⟩
 .rw[Ui,if_pos hm];simp;omega
 rw[tall_vl,Ui];omega
theorem rd_rd:∀(f m:Nat)(x:Tr)(l:List (List UInt8))(y:Tr)(r:List (List UInt8)),(2<m->wf x/\good x/\tall x<count x)->rd f m x l=some (y,r)->Rd x l m y r
 |0,m,x,l,y,r,_,h=>by cases m<;>cases h
 | f+1,0,x,l,y,r,_,h=>by
  unfold rd at h
  split at h
  .next q hq =>
   split at h
   .cases h
   next z r' hz =>
   injection h with h;injection h with h1 h2;subst h1 h2;obtain⟨a1,a2,a3,a4,a5,a6⟩:=rd_rd f 0 _ _ _ _ (λh=>by omega) hz;have:=tk_len hq;have a2:=a2 (by omega);rw[if_pos (by omega)]at a5;refine⟨by omega,λ_=>by omega,yO a3,by rw[wY];exact a4,?_,?_⟩
   .rw[count_nt,if_pos (by omega)];omega
   rw[tall_nt,count_nt];omega
  split at h
  .next q hq =>
   split at h
   .cases h
   next z r' hz =>
   split at h
   .cases h
   next r'' hr =>
   injection h with h;injection h with h1 h2;subst h1 h2;obtain⟨a1,a2,a3,a4,a5,a6⟩:=rd_rd f 2 _ _ _ _ (λh=>by omega) hz;have:=tk_len hq;have:=tk_len hr;have a2:=a2 (by omega);rw[if_pos (by omega)]at a5;exact⟨by omega,λ_=>by omega,a3,a4,by rw[if_pos (by omega)];omega,a6⟩
  exact xK h x 0 (by omega)
 |f+1,1,x,l,y,r,_,h=>by
  unfold rd at h
  split at h
  .cases h
  next z q hz =>
  obtain⟨a1,a2,a3,a4,a5,a6⟩:=rd_rd f 0 _ _ _ _ (λh=>by omega) hz;obtain⟨b1,b2,b3,b4,b5,b6⟩:=rd_rd f 3 _ _ _ _ (λ_=>⟨a3,a4,a6⟩) h;have a2:=a2 (by omega);rw[if_pos (by omega)]at a5;rw[if_neg (by omega)]at b5;exact⟨by omega,λ_=>by omega,b3,b4,by rw[if_pos (by omega)];omega,b6⟩
 |f+1,2,x,l,y,r,_,h=>by
  unfold rd at h
  split at h
  .cases h
  next z q hz =>
  obtain⟨a1,a2,a3,a4,a5,a6⟩:=rd_rd f 1 _ _ _ _ (λh=>by omega) hz;obtain⟨b1,b2,b3,b4,b5,b6⟩:=rd_rd f 4 _ _ _ _ (λ_=>⟨a3,a4,a6⟩) h;have a2:=a2 (by omega);rw[if_pos (by omega)]at a5;rw[if_neg (by omega)]at b5;exact⟨by omega,λ_=>by omega,b3,b4,by rw[if_pos (by omega)];omega,b6⟩
 | f+1,3,x,l,y,r,hx,h=>by
  obtain⟨x1,x2,x3⟩:=hx (by omega);unfold rd at h
  split at h
  .injection h with h;injection h with h1 h2;subst h1 h2
   exact⟨Nat.le_refl _,λh=>by omega,x1,x2,by rw[if_neg (by omega)];omega,x3⟩
  next q hq =>
  split at h
  .cases h
  next z r' hz =>
  obtain⟨a1,a2,a3,a4,a5,a6⟩:=rd_rd f 0 _ _ _ _ (λh=>by omega) hz;obtain⟨b1,b2,b3,b4,b5,b6⟩:=rd_rd f 3 _ _ _ _ (λ_=>⟨wf_an x1 a3,by rw[good_an];exact⟨x2,a4⟩,by rw[tall_an,count_an];omega⟩) h;have:=tk_len hq;have a2:=a2 (by omega);rw[if_pos (by omega)]at a5;rw[if_neg (by omega),count_an]at b5;exact⟨by omega,λh=>by omega,b3,b4,by rw[if_neg (by omega)];omega,b6⟩
 | f+1,m+4,x,l,y,r,hx,h=>by
  obtain⟨x1,x2,x3⟩:=hx (by omega);unfold rd at h
  split at h
  .injection h with h;injection h with h1 h2;subst h1 h2
   exact⟨Nat.le_refl _,λh=>by omega,x1,x2,by rw[if_neg (by omega)];omega,x3⟩
  next q hq =>
  split at h
  .cases h
  next z r' hz =>
  obtain⟨a1,a2,a3,a4,a5,a6⟩:=rd_rd f 1 _ _ _ _ (λh=>by omega) hz;obtain⟨b1,b2,b3,b4,b5,b6⟩:=rd_rd f 4 _ _ _ _ (λ_=>⟨wf_or x1 a3,by rw[good_or];exact⟨x2,a4⟩,by rw[tall_or,count_or];omega⟩) h;have:=tk_len hq;have a2:=a2 (by omega);rw[if_pos (by omega)]at a5;rw[if_neg (by omega),count_or]at b5;exact⟨by omega,λh=>by omega,b3,b4,by rw[if_neg (by omega)];omega,b6⟩
end Go.Proofs.YthboopnmbglkjaaGreat.P
namespace Go.Proofs.YthboopnmbglkjaaGreat
open Go.RowKit Tryz
structure But (p B:Nat) (w w':World):Prop where
 os:w'.os=w.os
 tape:w'.tape=w.tape
 output:w'.output=w.output
 size:w.heap.size<=w'.heap.size
 block:∀k,k<B->k≠p->w'.heap[k]?=w.heap[k]?
theorem But.refl(p B:Nat)(w:World):But p B w w:=⟨rfl,rfl,rfl,Nat.le_refl _,λ_ _ _=>rfl⟩
theorem But.trans{p B:Nat}{a b c:World}(h:But p B a b)(k:But p B b c):But p B a c :=
 ⟨k.os.trans h.os,k.tape.trans h.tape,k.output.trans h.output,lT h.size k.size,λi hi hp=>(k.block i hi hp).trans (h.block i hi hp)⟩
theorem But.mono{p B B':Nat}{w w':World}(h:But p B w w')(hB:B'<=B):But p B' w w':=⟨h.os,h.tape,h.output,h.size,λk hk=>h.block k (lL hk hB)⟩
theorem But.of_below{p B:Nat}{w w':World}(h:Below B w w'):But p B w w':=⟨h.os,h.tape,h.output,h.size,λk hk _=>h.block k hk⟩
theorem But.set{p B:Nat}{a w:World}(h:But p B a w)(o:Nat)(v:Value):But p B a (w.setCell (E p o) v) :=
 h.trans ⟨rfl,rfl,rfl,by simp[World.setCell],λk _ hp=>Below.heap_setCell _ _ _ _ hp⟩
theorem But.drew{p B:Nat}{a w:World}(h:But p B a w):But p B a w.drew:=⟨h.os,h.tape,h.output,h.size,h.block⟩
theorem But.below{p B B':Nat}{w w':World}(h:But p B w w')(hB:B'<=B)(hp:B'<=p):Below B' w w':=⟨h.os,h.tape,h.output,h.size,λk hk=>h.block k (by omega) (by omega)⟩
def RdAt(w:World)(p:Nat)(t:BA)(i:Nat):Prop :=
 w.cell? (E p 0)=some (Y t)/\w.cell? (E p 1)=some (X i)/\w.frozen? (E p 1)=false
theorem RdAt.lt{w:World}{p:Nat}{t:BA}{i:Nat}(h:RdAt w p t i):p<w.heap.size:=block_lt_of_cell h.1
theorem RdAt.below{w w':World}{p B:Nat}{t:BA}{i:Nat}(h:RdAt w p t i)(hb:Below B w w')(hB:p<B):RdAt w' p t i :=
 ⟨(hb.cell (p:=(E p 0)) hB).trans h.1,(hb.cell (p:=(E p 1)) hB).trans h.2.1,(hb.frozen (p:=(E p 1)) hB).trans h.2.2⟩
theorem RdAt.set{w:World}{p:Nat}{t:BA}{i:Nat}(h:RdAt w p t i)(k:Nat):RdAt (w.setCell (E p 1) (X k)) p t k:=by
 obtain⟨h0,h1,h2⟩:=h;refine⟨?_,?_,?_⟩
 .simp[go_sem,h0]
 .simp[go_sem,h1]
 simp[go_sem,h2]
theorem RdAt.succ{w:World}{p:Nat}{t:BA}{i:Nat}(h:RdAt w p t i):RdAt (w.setCell (E p 1) (X ((i:Int)+1))) p t (i+1):=h.set (i+1)
def cT(t:BA)(p:Nat)(w:World):Nat:=t.size-(match w.cell? (E p 1)with|some v=>(intOf v).toNat|none=>0)
theorem Nl{w:World}{p:Nat}{t:BA}{i:Nat}(h:RdAt w p t i):cT t p w=t.size-i:=by
 unfold cT;rw[h.2.1];simp[intOf]
theorem RdAt.drew{w:World}{p:Nat}{t:BA}{i:Nat}(h:RdAt w p t i):RdAt w.drew p t i:=h
def Ad(t:BA)(i:Nat):List (List UInt8):=P.toks (t.data.toList.drop i)
theorem Ts{t:BA}{i:Nat}(h:i<t.size):t.data.toList.drop i=t[i]::t.data.toList.drop (i+1):=by
 rw[List.drop_eq_getElem_cons (by simpa using h)];rfl
theorem Qe{t:BA}{i:Nat}(h:i<t.size)(hb:t[i]=32):Ad t (i+1)=Ad t i:=by
 unfold Ad;rw[Ts h,hb,P.toks_blank]
theorem Mm{t:BA}{i:Nat}(h:i<t.size)(hb:t[i]≠32)(hl:P.letter t[i]=false):Ad t i=[t[i]]::Ad t (i+1):=by
 unfold Ad;rw[Ts h,P.toks_sign _ hb hl]
theorem Ic{t:BA}{i:Nat}(h:t.size<=i):Ad t i=[]:=by
 unfold Ad;rw[List.drop_eq_nil_of_le (by simpa using h)];rfl
theorem oQ(c:UInt8)(r:List UInt8)(ts:List (List UInt8)):∃h l,P.onto c r ts=(c::h)::l:=by
 cases r with
 |nil=>exact⟨_,_,rfl⟩
 | cons d r =>
  cases ts with
  |nil=>exact⟨_,_,rfl⟩
  |cons h t =>
   by_cases hd:P.letter d=true
   .exact⟨h,t,by simp[P.onto,hd]⟩
   exact⟨[],h::t,by simp[P.onto,hd]⟩
theorem Sx{t:BA}{i:Nat}(h:i<t.size)(hb:t[i]≠32):∃l r,Ad t i=(t[i]::l)::r:=by
 unfold Ad;rw[Ts h,P.toks_cons,if_neg hb];by_cases hl:P.letter t[i]=true
 .rw[if_pos hl];exact oQ _ _ _
 rw[if_neg hl];exact⟨[],_,rfl⟩
theorem AD{t:BA}{k:Nat}{s:UInt8}(h:k<t.size)(hc:t[k]=s)(h32:s≠32)(hl:P.letter s=false):P.tk s (Ad t k)=some (Ad t (k+1)):=by
 rw[Mm h (by rw[hc];exact h32) (by rw[hc];exact hl),hc];simp[P.tk]
theorem xZ{t:BA}{k:Nat}{s:UInt8}(h:k<t.size)(hc:¬t[k]=s)(hb:t[k]≠32):P.tk s (Ad t k)=none:=by
 obtain⟨l,r,e⟩:=Sx h hb;rw[e];simp[P.tk,hc]
def lI(t:BA)(i:Nat):Prop:=∀h:i<t.size,t[i]≠32
theorem Ss{P:Program}{md:Region.Mode}{ops:Array Oper}{Q:Exit->Act->World->Prop}{S S':World->Prop}(hS:∀w,S' w->S w):∀(fuel:Nat)(listed:Array Bool)(a:Act)(w:World),wpAnyH P md ops Q S' fuel listed a w->wpAnyH P md ops Q S fuel listed a w
 |0,_,_,_,h=>h
 |fuel+1,_,_,_,h=>⟨h.1,λi hi=>wpOp_mono (λa' w' h'=>⟨hS w' h'.1,Ss hS fuel _ a' w' h'.2⟩) (h.2 i hi)⟩
theorem Nf(p:Nat)(t:BA)(i:Nat)(w:World)(hr:RdAt w p t i)(hi:i<=t.size)(ht:t.size<=200) :
  Calls prog 192 #[pP p 0] w λe w'=>∃k,e=.returned (.bool (decide (k=t.size)))/\i<=k/\k<=t.size/\Ad t k=Ad t i/\lI t k/\RdAt w' p t k/\But p w.heap.size w w':=by
 have HR:=iH hr;clear hr;go_enter func192,ntmps192
 go_wp2
 go_loopw [] (λwr=>∃k,i<=k/\k<=t.size/\Hid (Ad t k=Ad t i)/\Hid (RdAt wr p t k)/\Hid (But p w.heap.size w wr)) (λwr=>cT t p wr)
 case atStart=>exact⟨i,Nat.le_refl _,hi,rfl,HR,But.refl _ _ _⟩
 obtain⟨k,h1,h2,h3,h4,h5⟩:=hrel;obtain⟨r0,r1,r2⟩:=h4.out;by_cases hlt:k<t.size
 .have i0:(0:Int)<=(k:Int):=by omega
  have i1:(k:Int)<(t.size:Int):=by omega
  by_cases hb:t[k]=32
  .have hb':t[k].toNat=32:=by rw[hb];rfl
   have HT:Hid (Ad t (k+1)=Ad t i):=(Qe hlt hb).trans h3.out;clear hb;go_wp2_with fail
   go_region
   go_wp2
   go_roundw
   case rel=>exact⟨k+1,by omega,by omega,HT,h4.out.succ.drew,(h5.out.set _ _).drew⟩
   rw[Nl h4.out.succ.drew,Nl h4.out];omega
  have hb':¬t[k].toNat=32:=λe=>hb (UInt8.toNat_inj.1 e)
  have HS:Hid (lI t k):=λ_=>hb
  clear hb;go_wp2_with fail
  go_region
  go_wp2_with fail
  go_region
  go_wp2
  go_ret;exact⟨k,Ab (by rw[Bool.eq_iff_iff];simp;omega),h1,h2,h3.out,HS,h4.out,h5.out.drew.drew⟩
 have hke:k=t.size:=by omega
 have HS:Hid (lI t k):=λh=>absurd h hlt
 have i1:¬(k:Int)<(t.size:Int):=by omega
 go_wp2_with fail
 go_region
 go_wp2_with fail
 go_region
 go_wp2
 go_ret;exact⟨k,Ab (decide_eq_true hke).symm,h1,h2,h3.out,HS,h4.out,h5.out.drew.drew⟩
def BL(p:Nat)(t:BA)(i:Nat)(w:World):Prop:=RdAt w p t i
theorem Kp(p:Nat)(t:BA)(i:Nat)(s:UInt8)(w:World)(hr:RdAt w p t i)(hi:i<=t.size)(ht:t.size<=200)(h32:s≠32)(hl:P.letter s=false) :
  Calls prog 207 #[pP p 0,.int .u8 s.toNat] w λe w'=>∃k,e=.returned (.bool (P.tk s (Ad t i)).isSome)/\i<=k/\k<=t.size/\Ad t k=(P.tk s (Ad t i)).getD (Ad t i)/\RdAt w' p t k/\But p w.heap.size w w':=by
 have HR:=iH hr;clear hr;go_enter func207,ntmps207;go_wp2_with fail;refine wp_region_held_drew (S:=λ_=>True) (by kernel_rfl) trivial (λhS=>?_);refine ty 0 ⟨some 5,_,_,_,_,none⟩ (pP p 0) ?_ ?_ (hS:=trivial)
 .intro wy hy
  go_simp<;>omega
 refine rd1 1 ⟨some 6,_,_,_,_,none⟩ rfl (λK hK=>?_);go_simp;refine(Nf p t i _ HR.out.drew hi ht).mono ?_;rintro e w1⟨k,rfl,k1,k2,k3,k4,k5,k6⟩;have H5:=iH k5;have H6:Hid (But p w.heap.size w w1):=(But.refl p w.heap.size w).drew.trans k6;have H3:=iH k3;have H4:=iH k4;refine hK.out _ _ trivial (λ_=>?_);clear k3 k4 k5 k6 hS;clear hK K;refine Ss (S':=BL p t k) (λ_ _=>trivial) _ _ _ _ ?_;have hS:BL p t k w1:=H5.out;by_cases hk:k=t.size
 .have HT:Hid (P.tk s (Ad t i)=none):=by rw[<-H3.out,Ic (by omega)];rfl
  rw[decide_eq_true hk];refine x2 2 7 (.bool true) ?_;refine ts 3 8 ?_;refine ts 4 9 ?_;refine ts 5 10 ?_;refine ts 6 11 ?_;refine ts 7 12 ?_;refine ts 8 13 ?_;refine ts 9 14 ?_;refine ts 10 15 ?_;refine ts 11 16 ?_;refine ts 12 17 ?_;refine ts 13 18 ?_;refine x2 14 19 (.bool true) ?_;refine td ?_;obtain⟨r0,r1,r2⟩:=H5.out
  go_wp2
  go_ret;exact⟨k,by rw[HT.out];rfl,k1,k2,by rw[HT.out,H3.out];rfl,H5,H6⟩
 have hlt:k<t.size:=by omega
 rw[decide_eq_false hk];have i0:(0:Int)<=(k:Int):=by omega
 have i1:(k:Int)<(t.size:Int):=by omega
 by_cases hc:t[k]=s
 .have HT:Hid (P.tk s (Ad t i)=some (Ad t (k+1))):=by rw[<-H3.out];exact AD hlt hc h32 hl
  have hc':t[k].toNat=s.toNat:=by rw[hc]
  clear hc;refine x2 2 7 (.bool false) ?_;refine x2 3 8 (pP p 0) ?_;refine x2 4 9 (pP p 0) ?_;refine x2 5 10 (pP p 0) ?_;refine x2 6 11 (Y t) ?_;refine x2 7 12 (pP p 0) ?_;refine x2 8 13 (pP p 0) ?_;refine x2 9 14 (pP p 1) ?_;refine x2 10 15 (X k) ?_;refine x2 11 16 (.int .u8 t[k].toNat) ?_;refine x2 12 17 (.int .u8 s.toNat) ?_;refine x2 13 18 (.bool false) ?_;refine x2 14 19 (.bool false) ?_;refine td ?_;obtain⟨r0,r1,r2⟩:=H5.out
  go_wp2
  go_ret;exact⟨k+1,by rw[HT.out];rfl,by omega,by omega,by rw[HT.out];rfl,H5.out.succ,H6.out.set _ _⟩
 have HT:Hid (P.tk s (Ad t i)=none):=by rw[<-H3.out];exact xZ hlt hc (H4 hlt)
 have hc':¬t[k].toNat=s.toNat:=λe=>hc (UInt8.toNat_inj.1 e)
 have hc2:((t[k].toNat:Int)==(s.toNat:Int))=false:=by simp;omega
 clear hc;refine x2 2 7 (.bool false) ?_;refine x2 3 8 (pP p 0) ?_;refine x2 4 9 (pP p 0) ?_;refine x2 5 10 (pP p 0) ?_;refine x2 6 11 (Y t) ?_;refine x2 7 12 (pP p 0) ?_;refine x2 8 13 (pP p 0) ?_;refine x2 9 14 (pP p 1) ?_;refine x2 10 15 (X k) ?_;refine x2 11 16 (.int .u8 t[k].toNat) ?_;refine x2 12 17 (.int .u8 s.toNat) ?_;refine x2 13 18 (.bool true) ?_;refine x2 14 19 (.bool true) ?_;refine td ?_;obtain⟨r0,r1,r2⟩:=H5.out
 go_wp2
 go_ret;exact⟨k,by rw[HT.out];rfl,k1,k2,by rw[HT.out,H3.out];rfl,H5,H6⟩
end Go.Proofs.YthboopnmbglkjaaGreat
