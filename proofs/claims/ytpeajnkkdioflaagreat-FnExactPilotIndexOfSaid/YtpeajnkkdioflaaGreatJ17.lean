import Derived.Test.YtpeajnkkdioflaaGreatPure
import Derived.Handy
import Derived.Test.YtpeajnkkdioflaaGreatTk0
import Derived.BigQuiet
set_option maxHeartbeats 1000000
namespace Go.Proofs.YtpeajnkkdioflaaGreat
set_option maxRecDepth 100000
open Go.RowKit
theorem Ae {a b:Bool} (h:a=b):Ending.returned (.bool a)=.returned (.bool b):=by rw [h]
theorem Av {k:IntKind} {a b:Int} (h:a=b):Ending.returned (.int k a)=.returned (.int k b):=by rw [h]
theorem mC {a b:ByteArray} (h:a=b):Ending.returned (.string a)=.returned (.string b):=by rw [h]
theorem Ey (c:UInt8) (w:World) :
  Calls Tryz.prog 76 #[.int .u8 c.toNat] w fun e w'=>e=.returned (.bool (P.letter c))∧w'=w:=by
 have hc:c.toNat<256:=c.toNat_lt;have hn:P.letter c=decide (97≤c.toNat∧c.toNat≤122∨48≤c.toNat∧c.toNat≤57∨c.toNat=45∨c.toNat=95):=rfl;generalize P.letter c=L at hn;generalize c.toNat=n at *;have HH:Hid (L=decide (97≤n∧n≤122∨48≤n∧n≤57∨n=45∨n=95)):=hn;clear hn;go_enter Tryz.func76,Tryz.ntmps76
 go_wp2
 all_goals go_ret
 all_goals refine ⟨Ae ?_,rfl⟩
 all_goals rw [HH.out,Bool.eq_iff_iff]
 all_goals simp
 all_goals omega
theorem Hv (c:UInt8) (w:World) :
  Calls Tryz.prog 146 #[.int .u8 c.toNat] w fun e w'=>e=.returned (.bool (P.letter c))∧w'=w:=by
 have hc:c.toNat<256:=c.toNat_lt;have hn:P.letter c=decide (97≤c.toNat∧c.toNat≤122∨48≤c.toNat∧c.toNat≤57∨c.toNat=45∨c.toNat=95):=rfl;generalize P.letter c=L at hn;generalize c.toNat=n at *;have HH:Hid (L=decide (97≤n∧n≤122∨48≤n∧n≤57∨n=45∨n=95)):=hn;clear hn;go_enter Tryz.func146,Tryz.ntmps146
 go_wp2
 all_goals go_ret
 all_goals refine ⟨Ae ?_,rfl⟩
 all_goals rw [HH.out,Bool.eq_iff_iff]
 all_goals simp
 all_goals omega
def inB (n lo hi:Int):Bool:=decide (lo≤n∧n≤hi)
theorem Dr (n lo hi:Int) (w:World) :
  Calls Tryz.prog 43 #[.int .i64 n,.int .i64 lo,.int .i64 hi] w fun e w'=>e=.returned (.bool (inB n lo hi))∧w'=w:=by
 have HH:Hid (inB n lo hi=decide (lo≤n∧n≤hi)):=rfl;generalize inB n lo hi=L at *;go_enter Tryz.func43,Tryz.ntmps43
 go_wp2
 all_goals go_ret
 all_goals refine ⟨Ae ?_,rfl⟩
 all_goals rw [HH.out,Bool.eq_iff_iff]
 all_goals simp
 all_goals omega
theorem Ra (s:ByteArray) (k:Nat) (h:k<s.size):s.data.toList.take (k+1)=s.data.toList.take k++[s[k]]:=by
 rw [List.take_succ_eq_append_getElem (by simpa using h)];rfl
theorem Qp {s:ByteArray} {k:Nat} (h:k<s.size) (hl:P.letter s[k]=false):P.nameOk s=false:=by
 unfold P.nameOk;have:s.data.toList.all P.letter=false:=by
  rw [List.all_eq_false];exact ⟨s[k],by simp [ByteArray.getElem_eq_getElem_data],by simp [hl]⟩
 rw [this,Bool.and_false]
theorem Mt {s:ByteArray} (h:¬ (1≤s.size∧s.size≤20)):P.nameOk s=false:=by
 unfold P.nameOk;rw [decide_eq_false h,Bool.false_and]
theorem Ph {s:ByteArray} (h:1≤s.size∧s.size≤20) (hl:(s.data.toList.take s.size).all P.letter=true):P.nameOk s=true:=by
 unfold P.nameOk;rw [List.take_of_length_le (by simp)] at hl;rw [decide_eq_true h,hl];rfl
theorem Be (s:ByteArray) (w:World) (hs:s.size≤maxLen) :
  Calls Tryz.prog 42 #[.string s] w fun e w'=>e=.returned (.bool (P.nameOk s))∧w'=w:=by
 unfold maxLen at hs;by_cases hsz:1≤s.size∧s.size≤20
 ·obtain ⟨h1,h2⟩:=hsz
  have hin:inB s.size 1 20=true:=by unfold inB;simp;omega
  go_enter Tryz.func42,Tryz.ntmps42;go_wp2_with (go_at_call 43;refine (Dr _ _ _ _).mono ?_;rintro e w' ⟨rfl,rfl⟩;rw [hin])
  go_loop [3] (fun i=>∃ k:Nat,k≤s.size∧i=.int .i64 k∧(s.data.toList.take k).all P.letter=true) (fun i=>s.size - (intOf i).toNat)
  case atStart=>exact ⟨0,Nat.zero_le _,rfl,rfl⟩
  case round =>
   obtain ⟨k,hk,rfl,hall⟩:=hrel;have HA:Hid ((s.data.toList.take k).all P.letter=true):=hall;clear hall;by_cases hlt:k<s.size
   ·cases hL:P.letter s[k] with
    | false =>
     have HN:Hid (P.nameOk s=false):=Qp hlt hL;have HL:Hid (P.letter s[k]=false):=hL;clear hL;go_wp2_with (go_at_call 76;refine (Ey _ _).mono ?_;rintro e w' ⟨rfl,rfl⟩;rw [HL.out]);go_ret;exact ⟨Ae HN.out.symm,rfl⟩
    | true =>
     have HL:Hid (P.letter s[k]=true):=hL;clear hL;have HT:Hid ((s.data.toList.take (k+1)).all P.letter=true):=by
      show _=true
      rw [Ra s k hlt,List.all_append,HA.out];simp [HL.out]
     go_wp2_with (go_at_call 76;refine (Ey _ _).mono ?_;rintro e w' ⟨rfl,rfl⟩;rw [HL.out])
     go_round
     case rel=>exact ⟨k+1,by omega,by go_num,HT.out⟩
     case measure=>simp [intOf];omega
   ·go_wp2_with fail
    go_ret;have hke:k=s.size:=by omega
    exact ⟨Ae (Ph ⟨h1,h2⟩ (by rw [← hke];exact HA.out)).symm,rfl⟩
 ·have hin:inB s.size 1 20=false:=by unfold inB;simp;omega
  have HN:Hid (P.nameOk s=false):=Mt hsz;clear hsz;go_enter Tryz.func42,Tryz.ntmps42;go_wp2_with (go_at_call 43;refine (Dr _ _ _ _).mono ?_;rintro e w' ⟨rfl,rfl⟩;rw [hin]);go_ret;exact ⟨Ae HN.out.symm,rfl⟩
theorem Br (s:ByteArray) (w:World) (hs:s.size≤maxLen) :
  Calls Tryz.prog 122 #[.string s] w fun e w'=>e=.returned (.bool (P.nameOk s))∧w'=w:=by
 unfold maxLen at hs;by_cases hsz:1≤s.size∧s.size≤20
 ·obtain ⟨h1,h2⟩:=hsz
  go_enter Tryz.func122,Tryz.ntmps122;go_wp2_with fail
  go_loop [14] (fun i=>∃ k:Nat,k≤s.size∧i=.int .i64 k∧(s.data.toList.take k).all P.letter=true) (fun i=>s.size - (intOf i).toNat)
  case atStart=>exact ⟨0,Nat.zero_le _,rfl,rfl⟩
  case round =>
   obtain ⟨k,hk,rfl,hall⟩:=hrel;have HA:Hid ((s.data.toList.take k).all P.letter=true):=hall;clear hall;by_cases hlt:k<s.size
   ·cases hL:P.letter s[k] with
    | false =>
     have HN:Hid (P.nameOk s=false):=Qp hlt hL;have HL:Hid (P.letter s[k]=false):=hL;clear hL;go_wp2_with (go_at_call 146;refine (Hv _ _).mono ?_;rintro e w' ⟨rfl,rfl⟩;rw [HL.out]);go_ret;exact ⟨Ae HN.out.symm,rfl⟩
    | true =>
     have HL:Hid (P.letter s[k]=true):=hL;clear hL;have HT:Hid ((s.data.toList.take (k+1)).all P.letter=true):=by
      show _=true
      rw [Ra s k hlt,List.all_append,HA.out];simp [HL.out]
     go_wp2_with (go_at_call 146;refine (Hv _ _).mono ?_;rintro e w' ⟨rfl,rfl⟩;rw [HL.out])
     go_round
     case rel=>exact ⟨k+1,by omega,by go_num,HT.out⟩
     case measure=>simp [intOf];omega
   ·go_wp2_with fail
    go_ret;have hke:k=s.size:=by omega
    exact ⟨Ae (Ph ⟨h1,h2⟩ (by rw [← hke];exact HA.out)).symm,rfl⟩
 ·have HN:Hid (P.nameOk s=false):=Mt hsz
  rcases (show (s.size:Int)<1∨(20:Int)<s.size by omega) with hlt | hlt
  all_goals
   clear hsz;go_enter Tryz.func122,Tryz.ntmps122;go_wp2_with fail;go_ret;exact ⟨Ae HN.out.symm,rfl⟩
def lS (P:Program) (x:Value) (name:String) (args:Array Value) (w:World) (R:Value→World→Prop):Prop :=
 ∃ f bs,(callMethod x name args).run P w=.ok (.enter f bs) w∧Calls P f bs w fun e w'=>∃ u,e=.returned u∧R u w'
theorem Vn (x:Value) (qs:Array Value):(#[x]++qs).extract 1 (#[x]++qs).size=qs:=by
 apply Array.ext_getElem?;intro i;rw [Array.getElem?_extract];simp only [Array.size_append,List.size_toArray,List.length_cons,List.length_nil]
 split
 ·rw [Array.getElem?_append_right (by simp)]
  congr 1
  simp
 ·rw [Array.getElem?_eq_none]
  omega
theorem Lw (f:Operand→Value):(#[]:Array Operand).map f=#[]:=by simp
theorem mH (f:Operand→Value) (x:Operand):#[x].map f=#[f x]:=by simp
theorem Gs {P:Program} {ops:Array Oper} {rest:List Oper} {o:Oper} {a:Act} {Q:Exit→Act→World→Prop} {w:World}
  (hw:Region.wanted o (yielded ops a.tmps)=true) (x:Operand) (name:String) (qs:Array Operand) (ts:Array TypeId)
  (ho:o.op=.call { callee:=.invoke x name,args:=qs,argTypes:=ts })
  (xv:Value) (hx:a.eval x=xv) (bs:Array Value) (hq:qs.map a.eval=bs) (R:Value→World→Prop) (hm:lS P xv name bs w R)
  (h:∀ u w',R u w'→wpList P ops Q rest (a.put o.dst u) w'):wpList P ops Q (o::rest) a w:=by
 refine wpList_step fun K hK=>?_
 rw [if_pos hw];obtain ⟨f,bs',hr,hc⟩:=hm;subst hx;subst hq;have hrun:(execOp a.eval o).run P w=.ok (.enter f bs') w:=by
  unfold execOp;simp only [ho,resolve,invoke,Sem.run_bind,Sem.run_pure,Result.andThen_ok];rw [Vn];simp only [Array.getElem?_append,List.size_toArray,List.length_cons,List.length_nil];simp only [Nat.zero_add,Nat.lt_one_iff,if_true];exact hr
 unfold Oper.wp;rw [hrun,Oper.upon_enter];refine hc.mono ?_;rintro e w' ⟨u,rfl,hR⟩;exact hK _ _ (h u w' hR)
def Qf (a b:P.Tr):Int:=((max (P.tall a) (P.tall b)+1:Nat):Int)
def val:P.Tr→Value
 | .nil=>.nilIface
 | .node b _ p l r =>
  if b=0 then .iface 242 (.agg #[])
  else if b=1 then .iface 264 (.agg #[.string p.1])
  else if b=2 then .iface 266 (.agg #[.string p.1,.string p.2])
  else if b=3 then .iface 260 (.agg #[val l,.int .i64 ((P.tall l:Int)+1)])
  else if b=4 then .iface 258 (.agg #[val l,val r,.int .i64 (Qf l r)])
  else .iface 256 (.agg #[val l,val r,.int .i64 (Qf l r)])
theorem iR:val P.nonT=.iface 242 (.agg #[]):=rfl
theorem kG (n:ByteArray):val (P.nmT n)=.iface 264 (.agg #[.string n]):=rfl
theorem kL (n v:ByteArray):val (P.vlT n v)=.iface 266 (.agg #[.string n,.string v]):=rfl
theorem dK (k:P.Tr):val (P.ntT k)=.iface 260 (.agg #[val k,.int .i64 ((P.tall k:Int)+1)]):=rfl
theorem eY (a b:P.Tr):val (P.anT a b)=.iface 258 (.agg #[val a,val b,.int .i64 (Qf a b)]):=rfl
theorem fU (a b:P.Tr):val (P.orT a b)=.iface 256 (.agg #[val a,val b,.int .i64 (Qf a b)]):=rfl
theorem Ho (w:World):Calls Tryz.prog 203 #[.agg #[]] w fun e w'=>e=.returned (.int .i64 0)∧Below w.heap.size w w':=by
 go_enter Tryz.func203,Tryz.ntmps203
 go_wp2
 go_ret;exact ⟨rfl,by go_grown⟩
theorem Ut (x:Value) (h:Int) (w:World):Calls Tryz.prog 220 #[.agg #[x,.int .i64 h]] w fun e w'=>e=.returned (.int .i64 h)∧Below w.heap.size w w':=by
 go_enter Tryz.func220,Tryz.ntmps220
 go_wp2
 go_ret;exact ⟨rfl,by go_grown⟩
theorem Kv (x y:Value) (h:Int) (w:World):Calls Tryz.prog 207 #[.agg #[x,y,.int .i64 h]] w fun e w'=>e=.returned (.int .i64 h)∧Below w.heap.size w w':=by
 go_enter Tryz.func207,Tryz.ntmps207
 go_wp2
 go_ret;exact ⟨rfl,by go_grown⟩
structure gC (name:String):Prop where
 c0:∀ w,(callMethod (.iface 242 (.agg #[])) name #[]).run Tryz.prog w=.ok (.enter 203 #[.agg #[]]) w
 c1:∀ n w,(callMethod (.iface 264 (.agg #[.string n])) name #[]).run Tryz.prog w=.ok (.enter 203 #[.agg #[]]) w
 c2:∀ n v w,(callMethod (.iface 266 (.agg #[.string n,.string v])) name #[]).run Tryz.prog w=.ok (.enter 203 #[.agg #[]]) w
 c3:∀ x h w,(callMethod (.iface 260 (.agg #[x,.int .i64 h])) name #[]).run Tryz.prog w=.ok (.enter 220 #[.agg #[x,.int .i64 h]]) w
 c4:∀ x y h w,(callMethod (.iface 258 (.agg #[x,y,.int .i64 h])) name #[]).run Tryz.prog w=.ok (.enter 207 #[.agg #[x,y,.int .i64 h]]) w
 c5:∀ x y h w,(callMethod (.iface 256 (.agg #[x,y,.int .i64 h])) name #[]).run Tryz.prog w=.ok (.enter 207 #[.agg #[x,y,.int .i64 h]]) w
theorem Ej {t:P.Tr} (hw:P.wf t):∃ ty v,val t=.iface ty v:=by
 rcases P.wf_cases hw with rfl | ⟨n,rfl⟩ | ⟨n,v,rfl⟩ | ⟨k,hk,rfl⟩ | ⟨a,b,ha,hb,rfl⟩ | ⟨a,b,ha,hb,rfl⟩
 ·exact ⟨_,_,iR⟩
 ·exact ⟨_,_,kG _⟩
 ·exact ⟨_,_,kL _ _⟩
 ·exact ⟨_,_,dK _⟩
 ·exact ⟨_,_,eY _ _⟩
 ·exact ⟨_,_,fU _ _⟩
theorem Jj {name:String} (H:gC name) {t:P.Tr} (hw:P.wf t) {x:Value} (hx:Hid (val t=x)) (w:World):lS Tryz.prog x name #[] w fun u w'=>u=.int .i64 (P.tall t:Int)∧Below w.heap.size w w':=by
 rw [← hx.out];rcases P.wf_cases hw with rfl | ⟨n,rfl⟩ | ⟨n,v,rfl⟩ | ⟨k,hk,rfl⟩ | ⟨a,b,ha,hb,rfl⟩ | ⟨a,b,ha,hb,rfl⟩
 ·exact ⟨_,_,H.c0 w,(Ho w).mono fun e w' ⟨he,hb⟩=>⟨_,he,rfl,hb⟩⟩
 ·exact ⟨_,_,H.c1 n w,(Ho w).mono fun e w' ⟨he,hb⟩=>⟨_,he,rfl,hb⟩⟩
 ·exact ⟨_,_,H.c2 n v w,(Ho w).mono fun e w' ⟨he,hb⟩=>⟨_,he,rfl,hb⟩⟩
 ·refine ⟨_,_,H.c3 _ _ w,(Ut _ _ w).mono fun e w' ⟨he,hb⟩=>⟨_,he,?_,hb⟩⟩
  rw [P.tall_nt];congr 1
 ·exact ⟨_,_,H.c4 _ _ _ w,(Kv _ _ _ w).mono fun e w' ⟨he,hb⟩=>⟨_,he,rfl,hb⟩⟩
 ·exact ⟨_,_,H.c5 _ _ _ w,(Kv _ _ _ w).mono fun e w' ⟨he,hb⟩=>⟨_,he,rfl,hb⟩⟩
theorem Wp (t:P.Tr) (hw:P.wf t) (ht:P.tall t≤1000) (w:World) :
  Calls Tryz.prog 182 #[val t] w fun e w'=>e=.returned (val (P.ntT t))∧Below w.heap.size w w':=by
 rw [dK];obtain ⟨ty,v,hv⟩:=Ej hw;rw [hv];have HV:Hid (val t=.iface ty v):=hv;clear hv;go_enter Tryz.func182,Tryz.ntmps182;go_wp2_with (refine Gs rfl (.tmp 4) _ #[] #[] rfl _ rfl #[] (Lw _) _ (Jj ⟨fun _=>by kernel_rfl,fun _ _=>by kernel_rfl,fun _ _ _=>by kernel_rfl,fun _ _ _=>by kernel_rfl,fun _ _ _ _=>by kernel_rfl,fun _ _ _ _=>by kernel_rfl⟩ hw HV _) ?_;rintro u w1 ⟨rfl,hb⟩);go_ret;exact ⟨rfl,hb⟩
theorem Ys {w w1 w2:World} (hb:Below (w.alloc (Obj.cells #[Value.nilIface,Value.nilIface,Value.int IntKind.i64 0] 253)).heap.size (w.alloc (Obj.cells #[Value.nilIface,Value.nilIface,Value.int IntKind.i64 0] 253)) w1)
  (hb2:Below w1.heap.size w1 w2):w2.cell? ⟨w.heap.size,0,none⟩=some .nilIface∧w2.cell? ⟨w.heap.size,1,none⟩=some .nilIface∧w2.cell? ⟨w.heap.size,2,none⟩=some (.int .i64 0) ∧
   w2.frozen? ⟨w.heap.size,0,none⟩=false∧w2.frozen? ⟨w.heap.size,1,none⟩=false∧w2.frozen? ⟨w.heap.size,2,none⟩=false:=by
 have B:=hb.trans (hb2.mono hb.size);have hlt:w.heap.size<(w.alloc (Obj.cells #[Value.nilIface,Value.nilIface,Value.int IntKind.i64 0] 253)).heap.size:=by simp
 refine ⟨?_,?_,?_,?_,?_,?_⟩
 ·rw [B.cell (p:=⟨w.heap.size,0,none⟩) hlt];simp
 ·rw [B.cell (p:=⟨w.heap.size,1,none⟩) hlt];simp
 ·rw [B.cell (p:=⟨w.heap.size,2,none⟩) hlt];simp
 ·rw [B.frozen (p:=⟨w.heap.size,0,none⟩) hlt];simp
 ·rw [B.frozen (p:=⟨w.heap.size,1,none⟩) hlt];simp
 ·rw [B.frozen (p:=⟨w.heap.size,2,none⟩) hlt];simp
theorem Nz (s t:P.Tr) (hs:P.wf s) (ht:P.wf t) (hs':P.tall s≤1000) (ht':P.tall t≤1000) (w:World) :
  Calls Tryz.prog 181 #[val s,val t] w fun e w'=>e=.returned (.agg #[val s,val t,.int .i64 (Qf s t)])∧Below w.heap.size w w':=by
 obtain ⟨ty,v,hv⟩:=Ej hs;obtain ⟨ty',v',hv'⟩:=Ej ht;rw [hv,hv'];have HV:Hid (val s=.iface ty v):=hv;have HV':Hid (val t=.iface ty' v'):=hv';clear hv hv';have e:Hid (Qf s t=max ((P.tall s:Nat):Int) ((P.tall t:Nat):Int)+1):=by show _=_;unfold Qf;omega
 by_cases hlt:P.tall s<P.tall t
 all_goals
  go_enter Tryz.func181,Tryz.ntmps181
  go_wp2_with (first
   | (refine Gs rfl (.tmp 7) _ #[] #[] rfl _ rfl #[] (Lw _) _ (Jj ⟨fun _=>by kernel_rfl,fun _ _=>by kernel_rfl,fun _ _ _=>by kernel_rfl,fun _ _ _=>by kernel_rfl,fun _ _ _ _=>by kernel_rfl,fun _ _ _ _=>by kernel_rfl⟩ hs HV _) ?_;rintro u w1 ⟨rfl,hb⟩)
   | (refine Gs rfl (.tmp 9) _ #[] #[] rfl _ rfl #[] (Lw _) _ (Jj ⟨fun _=>by kernel_rfl,fun _ _=>by kernel_rfl,fun _ _ _=>by kernel_rfl,fun _ _ _=>by kernel_rfl,fun _ _ _ _=>by kernel_rfl,fun _ _ _ _=>by kernel_rfl⟩ ht HV' _) ?_;rintro u w2 ⟨rfl,hb2⟩;obtain ⟨c0,c1,c2,f0,f1,f2⟩:=Ys hb hb2))
  have hB:Below w.heap.size w w2:=((Below.refl _ w).alloc nL _).trans ((hb.trans (hb2.mono hb.size)).mono (by simp));refine bodyPost_ret (v:=.agg #[.iface ty v,.iface ty' v',.int .i64 (Qf s t)]) ?_ rfl ⟨rfl,?_⟩
  ·first
    | (rw [show Qf s t=(P.tall t:Int)+1 by rw [e.out];omega];simp [results,Tryz.results181,go_sem,c0,c1,c2];done)
    | (rw [show Qf s t=(P.tall s:Int)+1 by rw [e.out];omega];simp [results,Tryz.results181,go_sem,c0,c1,c2];done)
  ·exact ((hB.setCell nL _).setCell nL _).setCell nL _
theorem Tb (s t:P.Tr) (hs:P.wf s) (ht:P.wf t) (hs':P.tall s≤1000) (ht':P.tall t≤1000) (w:World) :
  Calls Tryz.prog 180 #[val s,val t] w fun e w'=>e=.returned (val (P.anT s t))∧Below w.heap.size w w':=by
 rw [eY];obtain ⟨ty,v,hv⟩:=Ej hs;obtain ⟨ty',v',hv'⟩:=Ej ht;have c:=fun w=>Nz s t hs ht hs' ht' w
 rw [hv,hv'] at c;rw [hv,hv'];have C:Hid _:=c;clear c hv hv';go_enter Tryz.func180,Tryz.ntmps180;go_wp2_with fail;refine (C.out _).mono ?_;rintro e w1 ⟨rfl,hb⟩;go_wp2_with fail;go_ret;exact ⟨rfl,hb⟩
theorem Pj (s t:P.Tr) (hs:P.wf s) (ht:P.wf t) (hs':P.tall s≤1000) (ht':P.tall t≤1000) (w:World) :
  Calls Tryz.prog 175 #[val s,val t] w fun e w'=>e=.returned (val (P.orT s t))∧Below w.heap.size w w':=by
 rw [fU];obtain ⟨ty,v,hv⟩:=Ej hs;obtain ⟨ty',v',hv'⟩:=Ej ht;have c:=fun w=>Nz s t hs ht hs' ht' w
 rw [hv,hv'] at c;rw [hv,hv'];have C:Hid _:=c;clear c hv hv';go_enter Tryz.func175,Tryz.ntmps175;go_wp2_with fail;refine (C.out _).mono ?_;rintro e w1 ⟨rfl,hb⟩;go_wp2_with fail;go_ret;exact ⟨rfl,hb⟩
end Go.Proofs.YtpeajnkkdioflaaGreat
