import Derived.Test.YtpidfnfilnkhkaaGreatJ6
import Derived.Test.YtpidfnfilnkhkaaGreatTk3
set_option maxHeartbeats 1000000
set_option maxRecDepth 100000
namespace Go.Proofs.YtpidfnfilnkhkaaGreat
open Go.RowKit
theorem BS {a b:BA} (h:a=b):Ending.returned (.string a)=.returned (.string b):=by rw [h]
theorem Gy (c:UInt8) (w:World) :
  Calls Tryz.prog 66 #[.int .u8 c.toNat] w fun e w'=>e=.returned (.bool (P.letter c))∧w'=w:=by
 have hc:c.toNat<256:=c.toNat_lt;have hn:P.letter c=decide (97≤c.toNat∧c.toNat≤122∨48≤c.toNat∧c.toNat≤57∨c.toNat=45∨c.toNat=95):=rfl;generalize P.letter c=L at hn;generalize c.toNat=n at *;have HH:=iH hn;clear hn;go_enter Tryz.func66,Tryz.ntmps66
 go_wp2
 all_goals go_ret
 all_goals refine ⟨Ab ?_,rfl⟩
 all_goals rw [HH.out,Bool.eq_iff_iff]
 all_goals simp
 all_goals omega
theorem Ld (c:UInt8) (w:World) :
  Calls Tryz.prog 158 #[.int .u8 c.toNat] w fun e w'=>e=.returned (.bool (P.letter c))∧w'=w:=by
 have hc:c.toNat<256:=c.toNat_lt;have hn:P.letter c=decide (97≤c.toNat∧c.toNat≤122∨48≤c.toNat∧c.toNat≤57∨c.toNat=45∨c.toNat=95):=rfl;generalize P.letter c=L at hn;generalize c.toNat=n at *;have HH:=iH hn;clear hn;go_enter Tryz.func158,Tryz.ntmps158
 go_wp2
 all_goals go_ret
 all_goals refine ⟨Ab ?_,rfl⟩
 all_goals rw [HH.out,Bool.eq_iff_iff]
 all_goals simp
 all_goals omega
def inB (n lo hi:Int):Bool:=decide (lo≤n∧n≤hi)
theorem Fm (n lo hi:Int) (w:World) :
  Calls Tryz.prog 38 #[.int .i64 n,.int .i64 lo,.int .i64 hi] w fun e w'=>e=.returned (.bool (inB n lo hi))∧w'=w:=by
 have HH:Hid (inB n lo hi=decide (lo≤n∧n≤hi)):=rfl;generalize inB n lo hi=L at *;go_enter Tryz.func38,Tryz.ntmps38
 go_wp2
 all_goals go_ret
 all_goals refine ⟨Ab ?_,rfl⟩
 all_goals rw [HH.out,Bool.eq_iff_iff]
 all_goals simp
 all_goals omega
theorem Yd (s:BA) (k:Nat) (h:k<s.size):s.data.toList.take (k+1)=s.data.toList.take k++[s[k]]:=by
 rw [List.take_succ_eq_append_getElem (by simpa using h)];rfl
theorem Zh {s:BA} {k:Nat} (h:k<s.size) (hl:P.letter s[k]=false):P.nameOk s=false:=by
 unfold P.nameOk;have:s.data.toList.all P.letter=false:=by
  rw [List.all_eq_false];exact ⟨s[k],by simp [ByteArray.getElem_eq_getElem_data],by simp [hl]⟩
 rw [this,Bool.and_false]
theorem Te {s:BA} (h:¬ (1≤s.size∧s.size≤20)):P.nameOk s=false:=by
 unfold P.nameOk;rw [decide_eq_false h,Bool.false_and]
theorem Vr {s:BA} (h:1≤s.size∧s.size≤20) (hl:(s.data.toList.take s.size).all P.letter=true):P.nameOk s=true:=by
 unfold P.nameOk;rw [List.take_of_length_le (by simp)] at hl;rw [decide_eq_true h,hl];rfl
theorem Bi (s:BA) (w:World) (hs:s.size≤maxLen) :
  Calls Tryz.prog 37 #[.string s] w fun e w'=>e=.returned (.bool (P.nameOk s))∧w'=w:=by
 unfold maxLen at hs;by_cases hsz:1≤s.size∧s.size≤20
 ·obtain ⟨h1,h2⟩:=hsz
  have hin:inB s.size 1 20=true:=by unfold inB;simp;omega
  go_enter Tryz.func37,Tryz.ntmps37;go_wp2_with (go_at_call 38;refine (Fm _ _ _ _).mono ?_;rintro e w' ⟨rfl,rfl⟩;rw [hin])
  go_loop [3] (fun i=>∃ k:Nat,k≤s.size∧i=.int .i64 k∧(s.data.toList.take k).all P.letter=true) (fun i=>s.size - (intOf i).toNat)
  case atStart=>exact ⟨0,zL,rfl,rfl⟩
  case round =>
   obtain ⟨k,hk,rfl,hall⟩:=hrel;have HA:=iH hall;clear hall;by_cases hlt:k<s.size
   ·cases hL:P.letter s[k] with
    | false =>
     have HN:Hid (P.nameOk s=false):=Zh hlt hL;have HL:=iH hL;clear hL;go_wp2_with (go_at_call 66;refine (Gy _ _).mono ?_;rintro e w' ⟨rfl,rfl⟩;rw [HL.out]);go_ret;exact ⟨Ab HN.out.symm,rfl⟩
    | true =>
     have HL:=iH hL;clear hL;have HT:Hid ((s.data.toList.take (k+1)).all P.letter=true):=by
      show _=true
      rw [Yd s k hlt,List.all_append,HA.out];simp [HL.out]
     go_wp2_with (go_at_call 66;refine (Gy _ _).mono ?_;rintro e w' ⟨rfl,rfl⟩;rw [HL.out])
     go_round
     case rel=>exact ⟨k+1,by omega,by go_num,HT⟩
     case measure=>simp [intOf];omega
   ·go_wp2_with fail
    go_ret;have hke:k=s.size:=by omega
    exact ⟨Ab (Vr ⟨h1,h2⟩ (by rw [← hke];exact HA.out)).symm,rfl⟩
 ·have hin:inB s.size 1 20=false:=by unfold inB;simp;omega
  have HN:Hid (P.nameOk s=false):=Te hsz;clear hsz;go_enter Tryz.func37,Tryz.ntmps37;go_wp2_with (go_at_call 38;refine (Fm _ _ _ _).mono ?_;rintro e w' ⟨rfl,rfl⟩;rw [hin]);go_ret;exact ⟨Ab HN.out.symm,rfl⟩
theorem Cn (s:BA) (w:World) (hs:s.size≤maxLen) :
  Calls Tryz.prog 128 #[.string s] w fun e w'=>e=.returned (.bool (P.nameOk s))∧w'=w:=by
 unfold maxLen at hs;by_cases hsz:1≤s.size∧s.size≤20
 ·obtain ⟨h1,h2⟩:=hsz
  go_enter Tryz.func128,Tryz.ntmps128;go_wp2_with fail
  go_loop [14] (fun i=>∃ k:Nat,k≤s.size∧i=.int .i64 k∧(s.data.toList.take k).all P.letter=true) (fun i=>s.size - (intOf i).toNat)
  case atStart=>exact ⟨0,zL,rfl,rfl⟩
  case round =>
   obtain ⟨k,hk,rfl,hall⟩:=hrel;have HA:=iH hall;clear hall;by_cases hlt:k<s.size
   ·cases hL:P.letter s[k] with
    | false =>
     have HN:Hid (P.nameOk s=false):=Zh hlt hL;have HL:=iH hL;clear hL;go_wp2_with (go_at_call 158;refine (Ld _ _).mono ?_;rintro e w' ⟨rfl,rfl⟩;rw [HL.out]);go_ret;exact ⟨Ab HN.out.symm,rfl⟩
    | true =>
     have HL:=iH hL;clear hL;have HT:Hid ((s.data.toList.take (k+1)).all P.letter=true):=by
      show _=true
      rw [Yd s k hlt,List.all_append,HA.out];simp [HL.out]
     go_wp2_with (go_at_call 158;refine (Ld _ _).mono ?_;rintro e w' ⟨rfl,rfl⟩;rw [HL.out])
     go_round
     case rel=>exact ⟨k+1,by omega,by go_num,HT⟩
     case measure=>simp [intOf];omega
   ·go_wp2_with fail
    go_ret;have hke:k=s.size:=by omega
    exact ⟨Ab (Vr ⟨h1,h2⟩ (by rw [← hke];exact HA.out)).symm,rfl⟩
 ·have HN:Hid (P.nameOk s=false):=Te hsz
  rcases (show (s.size:Int)<1∨(20:Int)<s.size by omega) with hlt | hlt
  all_goals
   clear hsz;go_enter Tryz.func128,Tryz.ntmps128;go_wp2_with fail;go_ret;exact ⟨Ab HN.out.symm,rfl⟩
def xD (P:Program) (x:Value) (name:String) (args:Array Value) (w:World) (R:Value→World→Prop):Prop :=
 ∃ f bs,(callMethod x name args).run P w=.ok (.enter f bs) w∧Calls P f bs w fun e w'=>∃ u,e=.returned u∧R u w'
theorem Ss (x:Value) (qs:Array Value):(#[x]++qs).extract 1 (#[x]++qs).size=qs:=by
 apply Array.ext_getElem?;intro i;rw [Array.getElem?_extract];simp only [Array.size_append,List.size_toArray,List.length_cons,List.length_nil]
 split
 ·rw [Array.getElem?_append_right (by simp)]
  congr 1
  simp
 ·rw [Array.getElem?_eq_none]
  omega
theorem Qh (f:Operand→Value):(#[]:Array Operand).map f=#[]:=by simp
theorem Lj (f:Operand→Value) (x:Operand):#[x].map f=#[f x]:=by simp
theorem Du {P:Program} {ops:Array Oper} {rest:List Oper} {o:Oper} {a:Act} {Q:Exit→Act→World→Prop} {w:World}
  (hw:Region.wanted o (yielded ops a.tmps)=true) (x:Operand) (name:String) (qs:Array Operand) (ts:Array TypeId)
  (ho:o.op=.call { callee:=.invoke x name,args:=qs,argTypes:=ts })
  (xv:Value) (hx:a.eval x=xv) (bs:Array Value) (hq:qs.map a.eval=bs) (R:Value→World→Prop) (hm:xD P xv name bs w R)
  (h:∀ u w',R u w'→wpList P ops Q rest (a.put o.dst u) w'):wpList P ops Q (o::rest) a w:=by
 refine wpList_step fun K hK=>?_
 rw [if_pos hw];obtain ⟨f,bs',hr,hc⟩:=hm;subst hx;subst hq;have hrun:(execOp a.eval o).run P w=.ok (.enter f bs') w:=by
  unfold execOp;simp only [ho,resolve,invoke,Sem.run_bind,Sem.run_pure,Result.andThen_ok];rw [Ss];simp only [Array.getElem?_append,List.size_toArray,List.length_cons,List.length_nil];simp only [Nat.zero_add,Nat.lt_one_iff,if_true];exact hr
 unfold Oper.wp;rw [hrun,Oper.upon_enter];refine hc.mono ?_;rintro e w' ⟨u,rfl,hR⟩;exact hK _ _ (h u w' hR)
def Xj (a b:P.Tr):Int:=((max (P.tall a) (P.tall b)+1:Nat):Int)
def val:P.Tr→Value
 | .nil=>.nilIface
 | .node b _ p l r =>
  if b=0 then .iface 262 (.agg #[])
  else if b=1 then .iface 294 (.agg #[.string p.1])
  else if b=2 then .iface 296 (.agg #[.string p.1,.string p.2])
  else if b=3 then .iface 290 (.agg #[val l,.int .i64 ((P.tall l:Int)+1)])
  else if b=4 then .iface 288 (.agg #[val l,val r,.int .i64 (Xj l r)])
  else .iface 286 (.agg #[val l,val r,.int .i64 (Xj l r)])
theorem mH:val P.nonT=.iface 262 (.agg #[]):=rfl
theorem rY (n:BA):val (P.nmT n)=.iface 294 (.agg #[.string n]):=rfl
theorem tV (n v:BA):val (P.vlT n v)=.iface 296 (.agg #[.string n,.string v]):=rfl
theorem jQ (k:P.Tr):val (P.ntT k)=.iface 290 (.agg #[val k,.int .i64 ((P.tall k:Int)+1)]):=rfl
theorem iS (a b:P.Tr):val (P.anT a b)=.iface 288 (.agg #[val a,val b,.int .i64 (Xj a b)]):=rfl
theorem jA (a b:P.Tr):val (P.orT a b)=.iface 286 (.agg #[val a,val b,.int .i64 (Xj a b)]):=rfl
theorem La (w:World):Calls Tryz.prog 248 #[.agg #[]] w (Rt (.int .i64 0) w):=by
 go_enter Tryz.func248,Tryz.ntmps248
 go_wp2
 go_ret;exact ⟨rfl,by go_grown⟩
theorem cO (x:Value) (h:Int) (w:World):Calls Tryz.prog 265 #[.agg #[x,.int .i64 h]] w (Rt (.int .i64 h) w):=by
 go_enter Tryz.func265,Tryz.ntmps265
 go_wp2
 go_ret;exact ⟨rfl,by go_grown⟩
theorem Qd (x y:Value) (h:Int) (w:World):Calls Tryz.prog 252 #[.agg #[x,y,.int .i64 h]] w (Rt (.int .i64 h) w):=by
 go_enter Tryz.func252,Tryz.ntmps252
 go_wp2
 go_ret;exact ⟨rfl,by go_grown⟩
structure sU (name:String):Prop where
 c0:∀ w,(callMethod (.iface 262 (.agg #[])) name #[]).run Tryz.prog w=.ok (.enter 248 #[.agg #[]]) w
 c1:∀ n w,(callMethod (.iface 294 (.agg #[.string n])) name #[]).run Tryz.prog w=.ok (.enter 248 #[.agg #[]]) w
 c2:∀ n v w,(callMethod (.iface 296 (.agg #[.string n,.string v])) name #[]).run Tryz.prog w=.ok (.enter 248 #[.agg #[]]) w
 c3:∀ x h w,(callMethod (.iface 290 (.agg #[x,.int .i64 h])) name #[]).run Tryz.prog w=.ok (.enter 265 #[.agg #[x,.int .i64 h]]) w
 c4:∀ x y h w,(callMethod (.iface 288 (.agg #[x,y,.int .i64 h])) name #[]).run Tryz.prog w=.ok (.enter 252 #[.agg #[x,y,.int .i64 h]]) w
 c5:∀ x y h w,(callMethod (.iface 286 (.agg #[x,y,.int .i64 h])) name #[]).run Tryz.prog w=.ok (.enter 252 #[.agg #[x,y,.int .i64 h]]) w
theorem Dd {t:P.Tr} (hw:P.wf t):∃ ty v,val t=.iface ty v:=by
 rcases P.wf_cases hw with rfl | ⟨n,rfl⟩ | ⟨n,v,rfl⟩ | ⟨k,hk,rfl⟩ | ⟨a,b,ha,hb,rfl⟩ | ⟨a,b,ha,hb,rfl⟩
 ·exact ⟨_,_,mH⟩
 ·exact ⟨_,_,rY _⟩
 ·exact ⟨_,_,tV _ _⟩
 ·exact ⟨_,_,jQ _⟩
 ·exact ⟨_,_,iS _ _⟩
 ·exact ⟨_,_,jA _ _⟩
theorem Nm {name:String} (H:sU name) {t:P.Tr} (hw:P.wf t) {x:Value} (hx:Hid (val t=x)) (w:World):xD Tryz.prog x name #[] w fun u w'=>u=.int .i64 (P.tall t:Int)∧Below w.heap.size w w':=by
 rw [← hx.out];rcases P.wf_cases hw with rfl | ⟨n,rfl⟩ | ⟨n,v,rfl⟩ | ⟨k,hk,rfl⟩ | ⟨a,b,ha,hb,rfl⟩ | ⟨a,b,ha,hb,rfl⟩
 ·exact ⟨_,_,H.c0 w,(La w).mono fun e w' ⟨he,hb⟩=>⟨_,he,rfl,hb⟩⟩
 ·exact ⟨_,_,H.c1 n w,(La w).mono fun e w' ⟨he,hb⟩=>⟨_,he,rfl,hb⟩⟩
 ·exact ⟨_,_,H.c2 n v w,(La w).mono fun e w' ⟨he,hb⟩=>⟨_,he,rfl,hb⟩⟩
 ·refine ⟨_,_,H.c3 _ _ w,(cO _ _ w).mono fun e w' ⟨he,hb⟩=>⟨_,he,?_,hb⟩⟩
  rw [P.tall_nt];congr 1
 ·exact ⟨_,_,H.c4 _ _ _ w,(Qd _ _ _ w).mono fun e w' ⟨he,hb⟩=>⟨_,he,rfl,hb⟩⟩
 ·exact ⟨_,_,H.c5 _ _ _ w,(Qd _ _ _ w).mono fun e w' ⟨he,hb⟩=>⟨_,he,rfl,hb⟩⟩
theorem kI (t:P.Tr) (hw:P.wf t) (ht:P.tall t≤1000) (w:World) :
  Calls Tryz.prog 227 #[val t] w (Rt (val (P.ntT t)) w):=by
 rw [jQ];obtain ⟨ty,v,hv⟩:=Dd hw;rw [hv];have HV:=iH hv;clear hv;go_enter Tryz.func227,Tryz.ntmps227;go_wp2_with (refine Du rfl (.tmp 4) _ #[] #[] rfl _ rfl #[] (Qh _) _ (Nm ⟨fun _=>by kernel_rfl,fun _ _=>by kernel_rfl,fun _ _ _=>by kernel_rfl,fun _ _ _=>by kernel_rfl,fun _ _ _ _=>by kernel_rfl,fun _ _ _ _=>by kernel_rfl⟩ hw HV _) ?_;rintro u w1 ⟨rfl,hb⟩);go_ret;exact ⟨rfl,hb⟩
theorem jN {w w1 w2:World} (hb:Below (w.alloc (Obj.cells #[Value.nilIface,Value.nilIface,Value.int IntKind.i64 0] 283)).heap.size (w.alloc (Obj.cells #[Value.nilIface,Value.nilIface,Value.int IntKind.i64 0] 283)) w1)
  (hb2:Below w1.heap.size w1 w2):w2.cell? ⟨w.heap.size,0,none⟩=some .nilIface∧w2.cell? ⟨w.heap.size,1,none⟩=some .nilIface∧w2.cell? ⟨w.heap.size,2,none⟩=some (.int .i64 0) ∧
   w2.frozen? ⟨w.heap.size,0,none⟩=false∧w2.frozen? ⟨w.heap.size,1,none⟩=false∧w2.frozen? ⟨w.heap.size,2,none⟩=false:=by
 have B:=qTr hb hb2;have hlt:w.heap.size<(w.alloc (Obj.cells #[Value.nilIface,Value.nilIface,Value.int IntKind.i64 0] 283)).heap.size:=by simp
 refine ⟨?_,?_,?_,?_,?_,?_⟩
 ·rw [B.cell (p:=⟨w.heap.size,0,none⟩) hlt];simp
 ·rw [B.cell (p:=⟨w.heap.size,1,none⟩) hlt];simp
 ·rw [B.cell (p:=⟨w.heap.size,2,none⟩) hlt];simp
 ·rw [B.frozen (p:=⟨w.heap.size,0,none⟩) hlt];simp
 ·rw [B.frozen (p:=⟨w.heap.size,1,none⟩) hlt];simp
 ·rw [B.frozen (p:=⟨w.heap.size,2,none⟩) hlt];simp
theorem Wv (s t:P.Tr) (hs:P.wf s) (ht:P.wf t) (hs':P.tall s≤1000) (ht':P.tall t≤1000) (w:World) :
  Calls Tryz.prog 226 #[val s,val t] w (Rt (.agg #[val s,val t,.int .i64 (Xj s t)]) w):=by
 obtain ⟨ty,v,hv⟩:=Dd hs;obtain ⟨ty',v',hv'⟩:=Dd ht;rw [hv,hv'];have HV:=iH hv;have HV':Hid (val t=.iface ty' v'):=hv';clear hv hv';have e:Hid (Xj s t=max ((P.tall s:Nat):Int) ((P.tall t:Nat):Int)+1):=by show _=_;unfold Xj;omega
 by_cases hlt:P.tall s<P.tall t
 all_goals
  go_enter Tryz.func226,Tryz.ntmps226
  go_wp2_with (first
   | (refine Du rfl (.tmp 7) _ #[] #[] rfl _ rfl #[] (Qh _) _ (Nm ⟨fun _=>by kernel_rfl,fun _ _=>by kernel_rfl,fun _ _ _=>by kernel_rfl,fun _ _ _=>by kernel_rfl,fun _ _ _ _=>by kernel_rfl,fun _ _ _ _=>by kernel_rfl⟩ hs HV _) ?_;rintro u w1 ⟨rfl,hb⟩)
   | (refine Du rfl (.tmp 9) _ #[] #[] rfl _ rfl #[] (Qh _) _ (Nm ⟨fun _=>by kernel_rfl,fun _ _=>by kernel_rfl,fun _ _ _=>by kernel_rfl,fun _ _ _=>by kernel_rfl,fun _ _ _ _=>by kernel_rfl,fun _ _ _ _=>by kernel_rfl⟩ ht HV' _) ?_;rintro u w2 ⟨rfl,hb2⟩;obtain ⟨c0,c1,c2,f0,f1,f2⟩:=jN hb hb2))
  have hB:Below w.heap.size w w2:=((Below.refl _ w).alloc nL _).trans ((qTr hb hb2).mono (by simp));refine bodyPost_ret (v:=.agg #[.iface ty v,.iface ty' v',.int .i64 (Xj s t)]) ?_ rfl ⟨rfl,?_⟩
  ·first
    | (rw [show Xj s t=(P.tall t:Int)+1 by rw [e.out];omega];simp [results,Tryz.results226,go_sem,c0,c1,c2];done)
    | (rw [show Xj s t=(P.tall s:Int)+1 by rw [e.out];omega];simp [results,Tryz.results226,go_sem,c0,c1,c2];done)
  ·exact ((hB.setCell nL _).setCell nL _).setCell nL _
theorem bT (s t:P.Tr) (hs:P.wf s) (ht:P.wf t) (hs':P.tall s≤1000) (ht':P.tall t≤1000) (w:World) :
  Calls Tryz.prog 225 #[val s,val t] w (Rt (val (P.anT s t)) w):=by
 rw [iS];obtain ⟨ty,v,hv⟩:=Dd hs;obtain ⟨ty',v',hv'⟩:=Dd ht;have c:=fun w=>Wv s t hs ht hs' ht' w
 rw [hv,hv'] at c;rw [hv,hv'];have C:Hid _:=c;clear c hv hv';go_enter Tryz.func225,Tryz.ntmps225;go_wp2_with fail;refine (C _).mono ?_;rintro e w1 ⟨rfl,hb⟩;go_wp2_with fail;go_ret;exact ⟨rfl,hb⟩
theorem Wi (s t:P.Tr) (hs:P.wf s) (ht:P.wf t) (hs':P.tall s≤1000) (ht':P.tall t≤1000) (w:World) :
  Calls Tryz.prog 219 #[val s,val t] w (Rt (val (P.orT s t)) w):=by
 rw [jA];obtain ⟨ty,v,hv⟩:=Dd hs;obtain ⟨ty',v',hv'⟩:=Dd ht;have c:=fun w=>Wv s t hs ht hs' ht' w
 rw [hv,hv'] at c;rw [hv,hv'];have C:Hid _:=c;clear c hv hv';go_enter Tryz.func219,Tryz.ntmps219;go_wp2_with fail;refine (C _).mono ?_;rintro e w1 ⟨rfl,hb⟩;go_wp2_with fail;go_ret;exact ⟨rfl,hb⟩
end Go.Proofs.YtpidfnfilnkhkaaGreat
namespace Go.Proofs.YtpidfnfilnkhkaaGreat.P
def onto (c:UInt8):List UInt8→List (List UInt8)→List (List UInt8)
 | d::_,h::t=>if letter d=true then (c::h)::t else [c]::h::t
 | [],ts=>[c]::ts
 | _::_,[]=>[[c]]
def toks:List UInt8→List (List UInt8)
 | []=>[]
 | c::r=>if c=32 then toks r else if letter c=true then onto c r (toks r) else [c]::toks r
theorem BC:toks []=[]:=rfl
theorem toks_cons (c:UInt8) (r:List UInt8):toks (c::r)=if c=32 then toks r else if letter c=true then onto c r (toks r) else [c]::toks r:=rfl
theorem toks_blank (r:List UInt8):toks (32::r)=toks r:=by rw [toks_cons,if_pos rfl]
theorem toks_sign {c:UInt8} (r:List UInt8) (h:c≠32) (hl:letter c=false):toks (c::r)=[c]::toks r:=by rw [toks_cons,if_neg h];simp [hl]
theorem Pu:letter 32=false:=by decide
def stops:List UInt8→Prop
 | []=>True
 | d::_=>letter d=false
theorem rU {c:UInt8} {r:List UInt8} (hc:letter c=true) (hr:stops r):toks (c::r)=[c]::toks r:=by
 have h32:c≠32:=fun e=>by rw [e,Pu] at hc;cases hc
 rw [toks_cons,if_neg h32,if_pos hc]
 cases r with
 | nil=>rfl
 | cons d t =>
  have hd:letter d=false:=hr
  cases h:toks (d::t) with
  | nil=>rfl
  | cons a b=>simp [onto,hd]
theorem toks_run:∀ (l:List UInt8) (r:List UInt8),l≠[]→(∀ c∈l,letter c=true)→stops r→toks (l++r)=l::toks r
 | [],_,h,_,_=>absurd rfl h
 | [c],r,_,hl,hr=>rU (hl c (by simp)) hr
 | c::d::l,r,_,hl,hr=>by
  have ih:=toks_run (d::l) r (by simp) (fun x hx=>hl x (by simp [hx])) hr;have hc:=hl c (by simp);have hd:=hl d (by simp);have h32:c≠32:=fun e=>by rw [e,Pu] at hc;cases hc
  show toks (c::(d::l++r))=_
  rw [toks_cons,if_neg h32,if_pos hc,ih];simp [onto,hd]
def bts (l:List UInt8):BA:=⟨l.toArray⟩
def nmB (t:List UInt8):Bool:=decide (1≤t.length∧t.length≤20) && t.all letter
theorem nmB_eq (t:List UInt8):nameOk (bts t)=nmB t:=by
 unfold nameOk nmB bts;simp [ByteArray.size]
def tk (s:UInt8):List (List UInt8)→Option (List (List UInt8))
 | []=>none
 | t::r=>if t=[s] then some r else none
def nm:List (List UInt8)→Option (List UInt8×List (List UInt8))
 | []=>none
 | t::r=>if nmB t=true then some (t,r) else none
def markT (l:List (List UInt8)):Option (Tr×List (List UInt8)) :=
 match nm l with
 | none=>none
 | some (n,r)=>match tk 61 r with
  | none=>some (nmT (bts n),r)
  | some r'=>match nm r' with
   | none=>none
   | some (v,r'')=>some (vlT (bts n) (bts v),r'')
def rd:Nat→Nat→Tr→List (List UInt8)→Option (Tr×List (List UInt8))
 | 0,_,_,_=>none
 | f+1,0,_,l=>match tk 33 l with
  | some r=>match rd f 0 nonT r with
   | none=>none
   | some (y,r')=>some (ntT y,r')
  | none=>match tk 40 l with
   | some r=>match rd f 2 nonT r with
    | none=>none
    | some (y,r')=>match tk 41 r' with
     | none=>none
     | some r''=>some (y,r'')
   | none=>markT l
 | f+1,1,_,l=>match rd f 0 nonT l with
  | none=>none
  | some (y,r)=>rd f 3 y r
 | f+1,2,_,l=>match rd f 1 nonT l with
  | none=>none
  | some (y,r)=>rd f 4 y r
 | f+1,3,x,l=>match tk 38 l with
  | none=>some (x,l)
  | some r=>match rd f 0 nonT r with
   | none=>none
   | some (y,r')=>rd f 3 (anT x y) r'
 | f+1,_+4,x,l=>match tk 124 l with
  | none=>some (x,l)
  | some r=>match rd f 1 nonT r with
   | none=>none
   | some (y,r')=>rd f 4 (orT x y) r'
theorem tk_some {s:UInt8} {l r:List (List UInt8)} (h:tk s l=some r):l=[s]::r:=by
 cases l with
 | nil=>cases h
 | cons t q =>
  have h':(if t=[s] then some q else none)=some r:=h
  split at h'
  ·next e=>injection h' with h';rw [e,h']
  ·cases h'
theorem nm_some {l r:List (List UInt8)} {n:List UInt8} (h:nm l=some (n,r)):l=n::r∧nmB n=true:=by
 cases l with
 | nil=>cases h
 | cons t q =>
  have h':(if nmB t=true then some (t,q) else none)=some (n,r):=h
  split at h'
  ·next e=>injection h' with h';injection h' with h1 h2;subst h1 h2;exact ⟨rfl,e⟩
  ·cases h'
theorem tk_len {s:UInt8} {l r:List (List UInt8)} (h:tk s l=some r):r.length+1=l.length:=by rw [tk_some h];rfl
def Rd (x:Tr) (l:List (List UInt8)) (m:Nat) (y:Tr) (r:List (List UInt8)):Prop :=
 r.length≤l.length∧(m≤2→r.length<l.length)∧wf y∧good y∧count y+r.length≤l.length+(if m≤2 then 0 else count x)∧tall y<count y
theorem xO {l r:List (List UInt8)} {y:Tr} (h:markT l=some (y,r)) (x:Tr) (m:Nat) (hm:m≤2):Rd x l m y r:=by
 unfold markT at h
 split at h
 ·cases h
 ·next n q hn =>
  obtain ⟨e1,e2⟩:=nm_some hn;have p1:=nameOk_pos ((nmB_eq n).trans e2)
  split at h
  ·injection h with h;injection h with h1 h2;subst h1 h2
   subst e1;refine ⟨by simp,fun _=>by simp,yA _,by rw [xH];exact p1,?_,?_⟩
   ·rw [Wo,if_pos hm];simp;omega
   ·rw [tall_nm,Wo];omega
  ·next q' hq =>
   split at h
   ·cases h
   ·next v r' hv =>
    obtain ⟨e3,e4⟩:=nm_some hv;have p2:=nameOk_pos ((nmB_eq v).trans e4);injection h with h;injection h with h1 h2;subst h1 h2;have:=tk_some hq;subst this;subst e1 e3;refine ⟨by simp;omega,fun _=>by simp;omega,yK _ _,by rw [xA];exact ⟨p1,p2⟩,?_,?_⟩
    ·rw [Wh,if_pos hm];simp;omega
    ·rw [tall_vl,Wh];omega
theorem rd_rd:∀ (f m:Nat) (x:Tr) (l:List (List UInt8)) (y:Tr) (r:List (List UInt8)),(2<m→wf x∧good x∧tall x<count x)→rd f m x l=some (y,r)→Rd x l m y r
 | 0,m,x,l,y,r,_,h=>by cases m <;> cases h
 | f+1,0,x,l,y,r,_,h=>by
  unfold rd at h
  split at h
  ·next q hq =>
   split at h
   ·cases h
   ·next z r' hz =>
    injection h with h;injection h with h1 h2;subst h1 h2;obtain ⟨a1,a2,a3,a4,a5,a6⟩:=rd_rd f 0 _ _ _ _ (fun h=>by omega) hz;have:=tk_len hq;have a2:=a2 (by omega);rw [if_pos (by omega)] at a5;refine ⟨by omega,fun _=>by omega,yO a3,by rw [wH];exact a4,?_,?_⟩
    ·rw [count_nt,if_pos (by omega)];omega
    ·rw [tall_nt,count_nt];omega
  ·split at h
   ·next q hq =>
    split at h
    ·cases h
    ·next z r' hz =>
     split at h
     ·cases h
     ·next r'' hr =>
      injection h with h;injection h with h1 h2;subst h1 h2;obtain ⟨a1,a2,a3,a4,a5,a6⟩:=rd_rd f 2 _ _ _ _ (fun h=>by omega) hz;have:=tk_len hq;have:=tk_len hr;have a2:=a2 (by omega);rw [if_pos (by omega)] at a5;exact ⟨by omega,fun _=>by omega,a3,a4,by rw [if_pos (by omega)];omega,a6⟩
   ·exact xO h x 0 (by omega)
 | f+1,1,x,l,y,r,_,h=>by
  unfold rd at h
  split at h
  ·cases h
  ·next z q hz =>
   obtain ⟨a1,a2,a3,a4,a5,a6⟩:=rd_rd f 0 _ _ _ _ (fun h=>by omega) hz;obtain ⟨b1,b2,b3,b4,b5,b6⟩:=rd_rd f 3 _ _ _ _ (fun _=>⟨a3,a4,a6⟩) h;have a2:=a2 (by omega);rw [if_pos (by omega)] at a5;rw [if_neg (by omega)] at b5;exact ⟨by omega,fun _=>by omega,b3,b4,by rw [if_pos (by omega)];omega,b6⟩
 | f+1,2,x,l,y,r,_,h=>by
  unfold rd at h
  split at h
  ·cases h
  ·next z q hz =>
   obtain ⟨a1,a2,a3,a4,a5,a6⟩:=rd_rd f 1 _ _ _ _ (fun h=>by omega) hz;obtain ⟨b1,b2,b3,b4,b5,b6⟩:=rd_rd f 4 _ _ _ _ (fun _=>⟨a3,a4,a6⟩) h;have a2:=a2 (by omega);rw [if_pos (by omega)] at a5;rw [if_neg (by omega)] at b5;exact ⟨by omega,fun _=>by omega,b3,b4,by rw [if_pos (by omega)];omega,b6⟩
 | f+1,3,x,l,y,r,hx,h=>by
  obtain ⟨x1,x2,x3⟩:=hx (by omega);unfold rd at h
  split at h
  ·injection h with h;injection h with h1 h2;subst h1 h2
   exact ⟨Nat.le_refl _,fun h=>by omega,x1,x2,by rw [if_neg (by omega)];omega,x3⟩
  ·next q hq =>
   split at h
   ·cases h
   ·next z r' hz =>
    obtain ⟨a1,a2,a3,a4,a5,a6⟩:=rd_rd f 0 _ _ _ _ (fun h=>by omega) hz;obtain ⟨b1,b2,b3,b4,b5,b6⟩:=rd_rd f 3 _ _ _ _ (fun _=>⟨wf_an x1 a3,by rw [good_an];exact ⟨x2,a4⟩,by rw [tall_an,count_an];omega⟩) h;have:=tk_len hq;have a2:=a2 (by omega);rw [if_pos (by omega)] at a5;rw [if_neg (by omega),count_an] at b5;exact ⟨by omega,fun h=>by omega,b3,b4,by rw [if_neg (by omega)];omega,b6⟩
 | f+1,m+4,x,l,y,r,hx,h=>by
  obtain ⟨x1,x2,x3⟩:=hx (by omega);unfold rd at h
  split at h
  ·injection h with h;injection h with h1 h2;subst h1 h2
   exact ⟨Nat.le_refl _,fun h=>by omega,x1,x2,by rw [if_neg (by omega)];omega,x3⟩
  ·next q hq =>
   split at h
   ·cases h
   ·next z r' hz =>
    obtain ⟨a1,a2,a3,a4,a5,a6⟩:=rd_rd f 1 _ _ _ _ (fun h=>by omega) hz;obtain ⟨b1,b2,b3,b4,b5,b6⟩:=rd_rd f 4 _ _ _ _ (fun _=>⟨wf_or x1 a3,by rw [good_or];exact ⟨x2,a4⟩,by rw [tall_or,count_or];omega⟩) h;have:=tk_len hq;have a2:=a2 (by omega);rw [if_pos (by omega)] at a5;rw [if_neg (by omega),count_or] at b5;exact ⟨by omega,fun h=>by omega,b3,b4,by rw [if_neg (by omega)];omega,b6⟩
end Go.Proofs.YtpidfnfilnkhkaaGreat.P
namespace Go.Proofs.YtpidfnfilnkhkaaGreat
open Go.RowKit
structure But (p B:Nat) (w w':World):Prop where
 os:w'.os=w.os
 tape:w'.tape=w.tape
 output:w'.output=w.output
 size:w.heap.size≤w'.heap.size
 block:∀ k,k<B→k≠p→w'.heap[k]?=w.heap[k]?
theorem But.refl (p B:Nat) (w:World):But p B w w:=⟨rfl,rfl,rfl,Nat.le_refl _,fun _ _ _=>rfl⟩
theorem But.trans {p B:Nat} {a b c:World} (h:But p B a b) (k:But p B b c):But p B a c :=
 ⟨k.os.trans h.os,k.tape.trans h.tape,k.output.trans h.output,lT h.size k.size,fun i hi hp=>(k.block i hi hp).trans (h.block i hi hp)⟩
theorem But.mono {p B B':Nat} {w w':World} (h:But p B w w') (hB:B'≤B):But p B' w w':=⟨h.os,h.tape,h.output,h.size,fun k hk=>h.block k (lL hk hB)⟩
theorem But.of_below {p B:Nat} {w w':World} (h:Below B w w'):But p B w w':=⟨h.os,h.tape,h.output,h.size,fun k hk _=>h.block k hk⟩
theorem But.set {p B:Nat} {a w:World} (h:But p B a w) (o:Nat) (v:Value):But p B a (w.setCell ⟨p,o,none⟩ v) :=
 h.trans ⟨rfl,rfl,rfl,by simp [World.setCell],fun k _ hp=>Below.heap_setCell _ _ _ _ hp⟩
theorem But.drew {p B:Nat} {a w:World} (h:But p B a w):But p B a w.drew:=⟨h.os,h.tape,h.output,h.size,h.block⟩
theorem But.below {p B B':Nat} {w w':World} (h:But p B w w') (hB:B'≤B) (hp:B'≤p):Below B' w w':=⟨h.os,h.tape,h.output,h.size,fun k hk=>h.block k (by omega) (by omega)⟩
def RdAt (w:World) (p:Nat) (t:BA) (i:Nat):Prop :=
 w.cell? ⟨p,0,none⟩=some (.string t)∧w.cell? ⟨p,1,none⟩=some (.int .i64 i)∧w.frozen? ⟨p,1,none⟩=false
theorem RdAt.lt {w:World} {p:Nat} {t:BA} {i:Nat} (h:RdAt w p t i):p<w.heap.size:=block_lt_of_cell h.1
theorem RdAt.below {w w':World} {p B:Nat} {t:BA} {i:Nat} (h:RdAt w p t i) (hb:Below B w w') (hB:p<B):RdAt w' p t i :=
 ⟨(hb.cell (p:=⟨p,0,none⟩) hB).trans h.1,(hb.cell (p:=⟨p,1,none⟩) hB).trans h.2.1,(hb.frozen (p:=⟨p,1,none⟩) hB).trans h.2.2⟩
theorem RdAt.set {w:World} {p:Nat} {t:BA} {i:Nat} (h:RdAt w p t i) (k:Nat):RdAt (w.setCell ⟨p,1,none⟩ (.int .i64 k)) p t k:=by
 obtain ⟨h0,h1,h2⟩:=h;refine ⟨?_,?_,?_⟩
 ·simp [go_sem,h0]
 ·simp [go_sem,h1]
 ·simp [go_sem,h2]
theorem RdAt.succ {w:World} {p:Nat} {t:BA} {i:Nat} (h:RdAt w p t i):RdAt (w.setCell ⟨p,1,none⟩ (.int .i64 ((i:Int)+1))) p t (i+1):=h.set (i+1)
def bI (t:BA) (p:Nat) (w:World):Nat:=t.size - (match w.cell? ⟨p,1,none⟩ with | some v=>(intOf v).toNat | none=>0)
theorem Nl {w:World} {p:Nat} {t:BA} {i:Nat} (h:RdAt w p t i):bI t p w=t.size - i:=by
 unfold bI;rw [h.2.1];simp [intOf]
theorem RdAt.drew {w:World} {p:Nat} {t:BA} {i:Nat} (h:RdAt w p t i):RdAt w.drew p t i:=h
def Ad (t:BA) (i:Nat):List (List UInt8):=P.toks (t.data.toList.drop i)
theorem Ua {t:BA} {i:Nat} (h:i<t.size):t.data.toList.drop i=t[i]::t.data.toList.drop (i+1):=by
 rw [List.drop_eq_getElem_cons (by simpa using h)];rfl
theorem Qm {t:BA} {i:Nat} (h:i<t.size) (hb:t[i]=32):Ad t (i+1)=Ad t i:=by
 unfold Ad;rw [Ua h,hb,P.toks_blank]
theorem Mm {t:BA} {i:Nat} (h:i<t.size) (hb:t[i]≠32) (hl:P.letter t[i]=false):Ad t i=[t[i]]::Ad t (i+1):=by
 unfold Ad;rw [Ua h,P.toks_sign _ hb hl]
theorem Ja {t:BA} {i:Nat} (h:t.size≤i):Ad t i=[]:=by
 unfold Ad;rw [List.drop_eq_nil_of_le (by simpa using h)];rfl
theorem nO (c:UInt8) (r:List UInt8) (ts:List (List UInt8)):∃ h l,P.onto c r ts=(c::h)::l:=by
 cases r with
 | nil=>exact ⟨_,_,rfl⟩
 | cons d r =>
  cases ts with
  | nil=>exact ⟨_,_,rfl⟩
  | cons h t =>
   by_cases hd:P.letter d=true
   ·exact ⟨h,t,by simp [P.onto,hd]⟩
   ·exact ⟨[],h::t,by simp [P.onto,hd]⟩
theorem Tc {t:BA} {i:Nat} (h:i<t.size) (hb:t[i]≠32):∃ l r,Ad t i=(t[i]::l)::r:=by
 unfold Ad;rw [Ua h,P.toks_cons,if_neg hb];by_cases hl:P.letter t[i]=true
 ·rw [if_pos hl];exact nO _ _ _
 ·rw [if_neg hl];exact ⟨[],_,rfl⟩
theorem zM {t:BA} {k:Nat} {s:UInt8} (h:k<t.size) (hc:t[k]=s) (h32:s≠32) (hl:P.letter s=false):P.tk s (Ad t k)=some (Ad t (k+1)):=by
 rw [Mm h (by rw [hc];exact h32) (by rw [hc];exact hl),hc];simp [P.tk]
theorem vU {t:BA} {k:Nat} {s:UInt8} (h:k<t.size) (hc:¬ t[k]=s) (hb:t[k]≠32):P.tk s (Ad t k)=none:=by
 obtain ⟨l,r,e⟩:=Tc h hb;rw [e];simp [P.tk,hc]
def mS (t:BA) (i:Nat):Prop:=∀ h:i<t.size,t[i]≠32
theorem Sr {P:Program} {md:Region.Mode} {ops:Array Oper} {Q:Exit→Act→World→Prop} {S S':World→Prop} (hS:∀ w,S' w→S w):∀ (fuel:Nat) (listed:Array Bool) (a:Act) (w:World),wpAnyH P md ops Q S' fuel listed a w→wpAnyH P md ops Q S fuel listed a w
 | 0,_,_,_,h=>h
 | fuel+1,_,_,_,h=>⟨h.1,fun i hi=>wpOp_mono (fun a' w' h'=>⟨hS w' h'.1,Sr hS fuel _ a' w' h'.2⟩) (h.2 i hi)⟩
theorem Ob (p:Nat) (t:BA) (i:Nat) (w:World) (hr:RdAt w p t i) (hi:i≤t.size) (ht:t.size≤200) :
  Calls Tryz.prog 202 #[.pointer (some ⟨p,0,none⟩)] w fun e w'=>∃ k,e=.returned (.bool (decide (k=t.size)))∧i≤k∧k≤t.size∧Ad t k=Ad t i∧mS t k∧RdAt w' p t k∧But p w.heap.size w w':=by
 have HR:=iH hr;clear hr;go_enter Tryz.func202,Tryz.ntmps202;go_wp2_with fail;go_loopw [] (fun wr=>∃ k,i≤k∧k≤t.size∧Hid (Ad t k=Ad t i)∧Hid (RdAt wr p t k)∧Hid (But p w.heap.size w wr)) (fun wr=>bI t p wr)
 case atStart=>exact ⟨i,Nat.le_refl _,hi,rfl,HR,But.refl _ _ _⟩
 case round =>
  obtain ⟨k,h1,h2,h3,h4,h5⟩:=hrel;obtain ⟨r0,r1,r2⟩:=h4.out;by_cases hlt:k<t.size
  ·have i0:(0:Int)≤(k:Int):=by omega
   have i1:(k:Int)<(t.size:Int):=by omega
   by_cases hb:t[k]=32
   ·have hb':t[k].toNat=32:=by rw [hb];rfl
    have HT:Hid (Ad t (k+1)=Ad t i):=(Qm hlt hb).trans h3.out;clear hb;go_wp2_with fail
    go_region
    go_wp2_with fail;go_roundw
    case rel=>exact ⟨k+1,by omega,by omega,HT,h4.out.succ.drew,(h5.out.set _ _).drew⟩
    case measure=>rw [Nl h4.out.succ.drew,Nl h4.out];omega
   ·have hb':¬ t[k].toNat=32:=fun e=>hb (UInt8.toNat_inj.1 e)
    have HS:Hid (mS t k):=fun _=>hb
    clear hb;go_wp2_with fail
    go_region
    go_wp2_with fail
    go_region
    go_wp2_with fail;go_ret;exact ⟨k,Ab (by rw [Bool.eq_iff_iff];simp;omega),h1,h2,h3.out,HS,h4.out,h5.out.drew.drew⟩
  ·have hke:k=t.size:=by omega
   have HS:Hid (mS t k):=fun h=>absurd h hlt
   have i1:¬ (k:Int)<(t.size:Int):=by omega
   go_wp2_with fail
   go_region
   go_wp2_with fail
   go_region
   go_wp2_with fail;go_ret;exact ⟨k,Ab (decide_eq_true hke).symm,h1,h2,h3.out,HS,h4.out,h5.out.drew.drew⟩
def BL (p:Nat) (t:BA) (i:Nat) (w:World):Prop:=RdAt w p t i
theorem Kj (p:Nat) (t:BA) (i:Nat) (s:UInt8) (w:World) (hr:RdAt w p t i) (hi:i≤t.size) (ht:t.size≤200) (h32:s≠32) (hl:P.letter s=false) :
  Calls Tryz.prog 223 #[.pointer (some ⟨p,0,none⟩),.int .u8 s.toNat] w fun e w'=>∃ k,e=.returned (.bool (P.tk s (Ad t i)).isSome)∧i≤k∧k≤t.size∧Ad t k=(P.tk s (Ad t i)).getD (Ad t i)∧RdAt w' p t k∧But p w.heap.size w w':=by
 have HR:=iH hr;clear hr;go_enter Tryz.func223,Tryz.ntmps223;go_wp2_with fail;refine wp_region_held_drew (S:=fun _=>True) (by kernel_rfl) trivial (fun hS=>?_);refine ty 0 ⟨some 5,_,_,_,_,none⟩ (.pointer (some ⟨p,0,none⟩)) rfl (by rfl) ?_ trivial ?_
 ·intro wy hy
  go_simp <;> omega
 simp only [pX];refine rd1 1 ⟨some 6,_,_,_,_,none⟩ rfl (fun K hK=>?_);go_simp;refine (Ob p t i _ HR.out.drew hi ht).mono ?_;rintro e w1 ⟨k,rfl,k1,k2,k3,k4,k5,k6⟩;have H5:=iH k5;have H6:Hid (But p w.heap.size w w1):=(But.refl p w.heap.size w).drew.trans k6;have H3:=iH k3;have H4:=iH k4;refine hK.out _ _ trivial (fun _=>?_);clear k3 k4 k5 k6 hS;clear hK K;refine Sr (S':=BL p t k) (fun _ _=>trivial) _ _ _ _ ?_;have hS:BL p t k w1:=H5.out;by_cases hk:k=t.size
 ·have HT:Hid (P.tk s (Ad t i)=none):=by rw [← H3.out,Ja (by omega)];rfl
  rw [decide_eq_true hk];refine x3 2 7 (.bool true) rfl hS ?_;simp only [pX];refine ts 3 8 rfl hS ?_;simp only [pX];refine ts 4 9 rfl hS ?_;simp only [pX];refine ts 5 10 rfl hS ?_;simp only [pX];refine ts 6 11 rfl hS ?_;simp only [pX];refine ts 7 12 rfl hS ?_;simp only [pX];refine ts 8 13 rfl hS ?_;simp only [pX];refine ts 9 14 rfl hS ?_;simp only [pX];refine ts 10 15 rfl hS ?_;simp only [pX];refine ts 11 16 rfl hS ?_;simp only [pX];refine ts 12 17 rfl hS ?_;simp only [pX];refine ts 13 18 rfl hS ?_;simp only [pX];refine x3 14 19 (.bool true) rfl hS ?_;simp only [pX];refine td ?_;obtain ⟨r0,r1,r2⟩:=H5.out;go_wp2_with fail;go_ret;exact ⟨k,by rw [HT.out];rfl,k1,k2,by rw [HT.out,H3.out];rfl,H5,H6⟩
 ·have hlt:k<t.size:=by omega
  rw [decide_eq_false hk];have i0:(0:Int)≤(k:Int):=by omega
  have i1:(k:Int)<(t.size:Int):=by omega
  by_cases hc:t[k]=s
  ·have HT:Hid (P.tk s (Ad t i)=some (Ad t (k+1))):=by rw [← H3.out];exact zM hlt hc h32 hl
   have hc':t[k].toNat=s.toNat:=by rw [hc]
   clear hc;refine x3 2 7 (.bool false) rfl hS ?_;simp only [pX];refine x3 3 8 (.pointer (some ⟨p,0,none⟩)) rfl hS ?_;simp only [pX];refine x3 4 9 (.pointer (some ⟨p,0,none⟩)) rfl hS ?_;simp only [pX];refine x3 5 10 (.pointer (some ⟨p,0,none⟩)) rfl hS ?_;simp only [pX];refine x3 6 11 (.string t) rfl hS ?_;simp only [pX];refine x3 7 12 (.pointer (some ⟨p,0,none⟩)) rfl hS ?_;simp only [pX];refine x3 8 13 (.pointer (some ⟨p,0,none⟩)) rfl hS ?_;simp only [pX];refine x3 9 14 (.pointer (some ⟨p,1,none⟩)) rfl hS ?_;simp only [pX];refine x3 10 15 (.int .i64 k) rfl hS ?_;simp only [pX];refine x3 11 16 (.int .u8 t[k].toNat) rfl hS ?_;simp only [pX];refine x3 12 17 (.int .u8 s.toNat) rfl hS ?_;simp only [pX];refine x3 13 18 (.bool false) rfl hS ?_;simp only [pX];refine x3 14 19 (.bool false) rfl hS ?_;simp only [pX];refine td ?_;obtain ⟨r0,r1,r2⟩:=H5.out;go_wp2_with fail;go_ret;exact ⟨k+1,by rw [HT.out];rfl,by omega,by omega,by rw [HT.out];rfl,H5.out.succ,H6.out.set _ _⟩
  ·have HT:Hid (P.tk s (Ad t i)=none):=by rw [← H3.out];exact vU hlt hc (H4 hlt)
   have hc':¬ t[k].toNat=s.toNat:=fun e=>hc (UInt8.toNat_inj.1 e)
   have hc2:((t[k].toNat:Int) == (s.toNat:Int))=false:=by simp;omega
   clear hc;refine x3 2 7 (.bool false) rfl hS ?_;simp only [pX];refine x3 3 8 (.pointer (some ⟨p,0,none⟩)) rfl hS ?_;simp only [pX];refine x3 4 9 (.pointer (some ⟨p,0,none⟩)) rfl hS ?_;simp only [pX];refine x3 5 10 (.pointer (some ⟨p,0,none⟩)) rfl hS ?_;simp only [pX];refine x3 6 11 (.string t) rfl hS ?_;simp only [pX];refine x3 7 12 (.pointer (some ⟨p,0,none⟩)) rfl hS ?_;simp only [pX];refine x3 8 13 (.pointer (some ⟨p,0,none⟩)) rfl hS ?_;simp only [pX];refine x3 9 14 (.pointer (some ⟨p,1,none⟩)) rfl hS ?_;simp only [pX];refine x3 10 15 (.int .i64 k) rfl hS ?_;simp only [pX];refine x3 11 16 (.int .u8 t[k].toNat) rfl hS ?_;simp only [pX];refine x3 12 17 (.int .u8 s.toNat) rfl hS ?_;simp only [pX];refine x3 13 18 (.bool true) rfl hS ?_;simp only [pX];refine x3 14 19 (.bool true) rfl hS ?_;simp only [pX];refine td ?_;obtain ⟨r0,r1,r2⟩:=H5.out;go_wp2_with fail;go_ret;exact ⟨k,by rw [HT.out];rfl,k1,k2,by rw [HT.out,H3.out];rfl,H5,H6⟩
end Go.Proofs.YtpidfnfilnkhkaaGreat
