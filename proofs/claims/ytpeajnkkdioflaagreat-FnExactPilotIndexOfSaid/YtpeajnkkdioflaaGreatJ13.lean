import Derived.Test.YtpeajnkkdioflaaGreatFlt
import Derived.Test.YtpeajnkkdioflaaGreatJ5
import Derived.Lib.Walk
import Derived.Lib.SliceRun
import Derived.Deep.AppendLies
import Derived.Maps.AppendAt
set_option maxHeartbeats 8000000
set_option maxRecDepth 100000
namespace Go.Proofs.YtpeajnkkdioflaaGreat
open Go.RowKit
theorem Ih {base g cap n:Nat} {w:World} {e:TypeId} {s:Nat} {cs:List Value} (h:w.ownsRow base e s (.slice (some ⟨g,0,none⟩) n cap) n cs):base≤g:=by
 rcases h.2 with ⟨h1,_⟩ | ⟨g',cap',cur,h1,h2,_⟩
 ·cases h1
 ·cases h1;exact h2
theorem Dd {base n:Nat} {w:World} {e:TypeId} {s:Nat} {cs:List Value} {v:Value} (h:w.ownsRow base e s v n cs) (hn:v≠.slice none 0 0):∃ g cap,v=.slice (some ⟨g,0,none⟩) n cap:=by
 rcases h.2 with ⟨h1,_⟩ | ⟨g',cap',cur,h1,_⟩
 ·exact absurd h1 hn
 ·exact ⟨g',cap',h1⟩
def Zm (x:Lik):List Value:=[.string x.select,.int .i64 x.weight]
def Mw:List Lik→List Value
 | []=>[]
 | x::r=>Zm x++Mw r
theorem Jr (x:Lik):(Zm x).length=2:=rfl
theorem Ru:∀ xs:List Lik,(Mw xs).length=xs.length*2
 | []=>rfl
 | x::r=>by
  have:=Ru r;simp only [Mw,List.length_append,List.length_cons,Jr];omega
theorem Vy:∀ (xs:List Lik) (k:Nat) (x:Lik) (j:Nat),xs[k]?=some x→j<2→(Mw xs)[k*2+j]?=(Zm x)[j]?
 | [],_,_,_,h,_=>by simp at h
 | y::r,0,x,j,h,hj=>by
  simp at h;subst h;simp only [Mw];rw [List.getElem?_append_left (by rw [Jr];omega)];simp
 | y::r,k+1,x,j,h,hj=>by
  simp at h;simp only [Mw];rw [List.getElem?_append_right (by rw [Jr];omega),Jr,show (k+1)*2+j - 2=k*2+j by omega];exact Vy r k x j h hj
theorem Wa {lo:Nat} {w:World} {f:Nat→Option Value} {x:Lik} (h:LikC lo w f x) (j:Nat) (v:Value) (hv:(Zm x)[j]?=some v):f j=some v:=by
 obtain ⟨q0,q1,_⟩:=h;have hj:j<2:=Ad hv;have hc:j=0∨j=1:=by omega
 rcases hc with rfl | rfl <;> (cases hv;assumption)
theorem iC {lo:Nat} {w:World} {b o:Nat} {xs:List Lik} (h:SliceC LikC 2 lo w (some ⟨b,o,none⟩) xs) (j:Nat) (u:Value) (hu:(Mw xs)[j]?=some u):w.cell? ((⟨b,o,none⟩:Addr).add j)=some u:=by
 have hl:j<xs.length*2:=by have:=Ad hu;rwa [Ru] at this
 obtain ⟨x,hx⟩:∃ x,xs[j / 2]?=some x:=⟨xs[j / 2]'(by omega),List.getElem?_eq_getElem (by omega)⟩;obtain ⟨b',o',e,_,_,hc⟩:=h.at hx;cases e
 rw [show j=j / 2*2+j % 2 by omega,Vy xs (j / 2) x (j % 2) hx (by omega)] at hu;have:=Wa hc (j % 2) u hu;rw [Addr.add_mid,show o+j=o+j / 2*2+j % 2 by omega];exact this
def Zw (x:Svc):List Value:=[.string x.name,.int .i64 x.spare]
def Nb:List Svc→List Value
 | []=>[]
 | x::r=>Zw x++Nb r
theorem Jn (x:Svc):(Zw x).length=2:=rfl
theorem Qg:∀ xs:List Svc,(Nb xs).length=xs.length*2
 | []=>rfl
 | x::r=>by
  have:=Qg r;simp only [Nb,List.length_append,List.length_cons,Jn];omega
theorem Ur:∀ (xs:List Svc) (k:Nat) (x:Svc) (j:Nat),xs[k]?=some x→j<2→(Nb xs)[k*2+j]?=(Zw x)[j]?
 | [],_,_,_,h,_=>by simp at h
 | y::r,0,x,j,h,hj=>by
  simp at h;subst h;simp only [Nb];rw [List.getElem?_append_left (by rw [Jn];omega)];simp
 | y::r,k+1,x,j,h,hj=>by
  simp at h;simp only [Nb];rw [List.getElem?_append_right (by rw [Jn];omega),Jn,show (k+1)*2+j - 2=k*2+j by omega];exact Ur r k x j h hj
theorem Ud {lo:Nat} {w:World} {f:Nat→Option Value} {x:Svc} (h:SvcC lo w f x) (j:Nat) (v:Value) (hv:(Zw x)[j]?=some v):f j=some v:=by
 obtain ⟨q0,q1,_⟩:=h;have hj:j<2:=Ad hv;have hc:j=0∨j=1:=by omega
 rcases hc with rfl | rfl <;> (cases hv;assumption)
theorem gQ {lo:Nat} {w:World} {b o:Nat} {xs:List Svc} (h:SliceC SvcC 2 lo w (some ⟨b,o,none⟩) xs) (j:Nat) (u:Value) (hu:(Nb xs)[j]?=some u):w.cell? ((⟨b,o,none⟩:Addr).add j)=some u:=by
 have hl:j<xs.length*2:=by have:=Ad hu;rwa [Qg] at this
 obtain ⟨x,hx⟩:∃ x,xs[j / 2]?=some x:=⟨xs[j / 2]'(by omega),List.getElem?_eq_getElem (by omega)⟩;obtain ⟨b',o',e,_,_,hc⟩:=h.at hx;cases e
 rw [show j=j / 2*2+j % 2 by omega,Ur xs (j / 2) x (j % 2) hx (by omega)] at hu;have:=Ud hc (j % 2) u hu;rw [Addr.add_mid,show o+j=o+j / 2*2+j % 2 by omega];exact this
abbrev Bg (xs:List ByteArray):List Value:=xs.map Value.string
theorem Qh (xs:List ByteArray):(Bg xs).length=xs.length*1:=by simp
theorem Ei (ms:List ByteArray):∀ u∈Bg ms,u.oneCell'=true:=by
 intro u hu;obtain ⟨x,_,rfl⟩:=List.mem_map.1 hu;rfl
theorem dG {ms:List ByteArray} {j:Nat} {u:Value} (h:(Bg ms)[j]?=some u):∃ s,ms[j]?=some s∧u=.string s:=by
 rw [List.getElem?_map] at h
 cases e:ms[j]? with
 | none=>rw [e] at h;cases h
 | some s=>rw [e] at h;cases h;exact ⟨s,rfl,rfl⟩
theorem jB {lo:Nat} {w:World} {b o:Nat} {xs:List ByteArray} (h:SliceC StrC 1 lo w (some ⟨b,o,none⟩) xs) (j:Nat) (u:Value) (hu:(Bg xs)[j]?=some u):w.cell? ((⟨b,o,none⟩:Addr).add j)=some u:=by
 obtain ⟨s,hs,rfl⟩:=dG hu;obtain ⟨b',o',e,_,_,hc⟩:=h.at hs;cases e
 have:=hc.1;simp only [Nat.mul_one,Nat.add_zero] at this;rw [Addr.add_mid];exact this
def Lb (xs:List ByteArray) (m:Nat):Prop:=∀ x∈xs,x.size≤m
theorem Uf {lo:Nat} {w:World} {a:Option Addr} {xs:List ByteArray} (h:SliceC StrC 1 lo w a xs):Lb xs maxLen:=by
 intro x hx;obtain ⟨j,hj⟩:=List.getElem?_of_mem hx;obtain ⟨_,_,_,_,_,hc⟩:=h.at hj;exact hc.2
theorem Wm {base cap:Nat} {a:Option Addr} {w:World} {xs:List ByteArray} (h:w.ownsRow base 9 1 (.slice a xs.length cap) xs.length (Bg xs)) (hm:xs.length≤1048576) (hz:Lb xs maxLen):SliceC StrC 1 base w a xs:=by
 rcases h.2 with ⟨h1,_⟩ | ⟨g',cap',cur,h1,_⟩
 ·have:xs.length=0:=by injection h1
  rw [List.length_eq_zero_iff.1 this];exact SliceC.nil
 ·have e:a=some ⟨g',0,none⟩:=by injection h1
  subst e;refine ⟨by unfold maxLen;omega,.inr ⟨g',0,rfl,⟨Ih h,fun _ p=>h.frozenAt p⟩,(h.lt g' rfl).2,fun k x hk=>⟨?_,hz x (List.mem_of_getElem? hk)⟩⟩⟩;have hlt:=Ad hk;have:=h.cellAt k (by omega);simp only [Nat.mul_one,Nat.add_zero,Nat.zero_add];rw [this,List.getElem?_map,hk];rfl
theorem Mp {P:Program} {w:World} (base:Nat) (t ty e:TypeId) (i:TypeInfo) (size c:Nat) (ht:P.underlying t=some (.slice e)) (hi:P.info? e=some i)
  (v:Value) (n:Nat) (xs:List Value) (hown:w.ownsRow base e size v n xs) :
  (Builtin.append_ #[t,t] ty #[v,.slice none 0 c]).run P w=.ok v w:=by
 rcases hown.2 with ⟨rfl,rfl⟩ | ⟨g,cap,cur,rfl,_,_,hnc,_⟩
 ·simp [Builtin.append_,run_underlying ht,sizeOf,typeInfo,hi,Builtin.lenOf,Builtin.firstCells]
 ·simp [Builtin.append_,run_underlying ht,sizeOf,typeInfo,hi,Builtin.lenOf,Builtin.firstCells,hnc,storeCells]
theorem Nk {P:Program} {w:World} {ops:Array Oper} {rest:List Oper} {o:Oper} {a:Act} {Q:Exit→Act→World→Prop} (hgd:o.guard=none) (s x:Operand) (t:TypeId)
  (ho:o.op=.call { callee:=.builtin .append,args:=#[s,x],argTypes:=#[t,t] })
  (base:Nat) (e:TypeId) (i:TypeInfo) (z:Value) (size bytes:Nat) (ht:P.underlying t=some (.slice e)) (hi:P.info? e=some i) (hz:i.zero=some z)
  (hsize:i.size=size) (hby:i.bytes=bytes) (hzs:z.cells.size=size) (hsz:0<size)
  (v:Value) (n:Nat) (xs:List Value) (hs:a.eval s=v) (hown:w.ownsRow base e size v n xs)
  (ao:Option Addr) (m c:Nat) (news:List Value) (hx:a.eval x=.slice ao m c) (hno:ao=none→m=0) (hl:news.length=m*size) (hnews:∀ ad,ao=some ad→∀ j u,news[j]?=some u→w.cell? (ad.add j)=some u) (h1:∀ u∈news,u.oneCell'=true)
  (h63:n+m≤maxLen) (hbytes:(n+m)*bytes≤140737488355328) (hbase:base≤w.heap.size)
  (h:∀ v' w',w'.ownsRow base e size v' (n+m) (xs++news)→w.grownBy w' v.ownBlock→(v'=.slice none 0 0↔v=.slice none 0 0∧m=0)→wpList P ops Q rest (a.put o.dst v') w'):wpList P ops Q (o::rest) a w:=by
 cases ao with
 | some ad=>exact wpList_append_own w hgd s x t ho base e i z size bytes ht hi hz hsize hby hzs hsz v n xs hs hown ad m c news hx hl (hnews ad rfl) h1 h63 hbytes hbase h
 | none =>
  obtain rfl:=hno rfl;have hn:news=[]:=List.length_eq_zero_iff.1 (by omega);subst hn;have hrun:=Mp (P:=P) (w:=w) base t o.type e i size c ht hi v n xs hown;refine wpList_plain hgd fun K hK=>?_
  unfold Oper.wp;simp [execOp,ho,resolve,invoke,builtin,hs,hx,hrun,Result.andThen];exact hK _ _ (h v w (by simpa using hown) ⟨rfl,rfl,rfl,Nat.le_refl _,fun _ _ _=>rfl⟩ (by simp))
theorem SliceC.nilD {α:Type} {C:Ed α} {n lo:Nat} {w:World} {a:Option Addr} {xs:List α} (h:SliceC C n lo w a xs) (e:a=none):xs.length=0:=by
 rcases h.2 with h | ⟨b,o,h,_⟩
 ·rw [h];rfl
 ·rw [e] at h;cases h
theorem Vq {lo:Nat} {w:World} {a:Option Addr} {xs:List ByteArray} (h:SliceC StrC 1 lo w a xs):∀ ad,a=some ad→∀ j u,(Bg xs)[j]?=some u→w.cell? (ad.add j)=some u:=by
 intro ad e j u hu;rcases h.2 with h' | ⟨b,o,e',_⟩
 ·subst h';cases hu
 ·rw [e] at e';cases e';subst e;exact jB h j u hu
theorem lQ {lo:Nat} {w:World} {a:Option Addr} {xs:List Lik} (h:SliceC LikC 2 lo w a xs):∀ ad,a=some ad→∀ j u,(Mw xs)[j]?=some u→w.cell? (ad.add j)=some u:=by
 intro ad e j u hu;rcases h.2 with h' | ⟨b,o,e',_⟩
 ·subst h';cases hu
 ·rw [e] at e';cases e';subst e;exact iC h j u hu
theorem mA {lo:Nat} {w:World} {a:Option Addr} {xs:List Svc} (h:SliceC SvcC 2 lo w a xs):∀ ad,a=some ad→∀ j u,(Nb xs)[j]?=some u→w.cell? (ad.add j)=some u:=by
 intro ad e j u hu;rcases h.2 with h' | ⟨b,o,e',_⟩
 ·subst h';cases hu
 ·rw [e] at e';cases e';subst e;exact gQ h j u hu
theorem My (x:Brt) (a2:Option Addr) (c2 lo:Nat) (w:World) (n2:SliceC StrC 1 lo w a2 x.marks) (hl:x.marks.length≤1048576) :
  Calls Tryz.prog 50 #[.agg #[.string x.name,.string x.zone,.slice a2 x.marks.length c2,.int .i64 x.room,.int .i64 x.hold,.bool x.closed]] w fun e w'=>∃ g q,e=.returned (.agg #[.string x.name,.string x.zone,.slice (some ⟨g,0,none⟩) x.marks.length q,.int .i64 x.room,.int .i64 x.hold,.bool x.closed])∧SliceC StrC 1 w.heap.size w' (some ⟨g,0,none⟩) x.marks∧w.heap.size≤g∧g<w'.heap.size∧Below w.heap.size w w':=by
 obtain ⟨i0,hi,hz0,hz1,hz2⟩:=info_parts Lo;have HI:=iH n2;clear n2;have h1:Blk w.heap.size #[.string x.name,.string x.zone,.slice a2 x.marks.length c2,.int .i64 x.room,.int .i64 x.hold,.bool x.closed] 86 (w.alloc (Obj.cells #[.string x.name,.string x.zone,.slice a2 x.marks.length c2,.int .i64 x.room,.int .i64 x.hold,.bool x.closed] 86)):=Blk.alloc _ _ _;have HZ2:Hid (Blk (w.heap.size+1) #[.string ⟨#[]⟩,.string ⟨#[]⟩,.slice none 0 0,.int .i64 0,.int .i64 0,.bool false] 86 ((w.alloc (Obj.cells #[.string x.name,.string x.zone,.slice a2 x.marks.length c2,.int .i64 x.room,.int .i64 x.hold,.bool x.closed] 86)).alloc (Obj.cells #[.string ⟨#[]⟩,.string ⟨#[]⟩,.slice none 0 0,.int .i64 0,.int .i64 0,.bool false] 86))):=by
  have:=Blk.alloc (w.alloc (Obj.cells #[.string x.name,.string x.zone,.slice a2 x.marks.length c2,.int .i64 x.room,.int .i64 x.hold,.bool x.closed] 86)) #[.string ⟨#[]⟩,.string ⟨#[]⟩,.slice none 0 0,.int .i64 0,.int .i64 0,.bool false] 86;show Blk _ _ _ _
  simpa using this
 have HK2:Hid (Blk w.heap.size #[.string x.name,.string x.zone,.slice a2 x.marks.length c2,.int .i64 x.room,.int .i64 x.hold,.bool x.closed] 86 ((w.alloc (Obj.cells #[.string x.name,.string x.zone,.slice a2 x.marks.length c2,.int .i64 x.room,.int .i64 x.hold,.bool x.closed] 86)).alloc (Obj.cells #[.string ⟨#[]⟩,.string ⟨#[]⟩,.slice none 0 0,.int .i64 0,.int .i64 0,.bool false] 86))):=h1.below ((Below.refl _ _).alloc nL _) h1.lt;have hB2:Below w.heap.size w ((w.alloc (Obj.cells #[.string x.name,.string x.zone,.slice a2 x.marks.length c2,.int .i64 x.room,.int .i64 x.hold,.bool x.closed] 86)).alloc (Obj.cells #[.string ⟨#[]⟩,.string ⟨#[]⟩,.slice none 0 0,.int .i64 0,.int .i64 0,.bool false] 86)):=by go_grown
 clear h1;go_enter Tryz.func50,Tryz.ntmps50;go_upto_region 1 with fail;generalize ((w.alloc (Obj.cells #[.string x.name,.string x.zone,.slice a2 x.marks.length c2,.int .i64 x.room,.int .i64 x.hold,.bool x.closed] 86)).alloc (Obj.cells #[.string ⟨#[]⟩,.string ⟨#[]⟩,.slice none 0 0,.int .i64 0,.int .i64 0,.bool false] 86))=w2 at *;have k5:(w2.alloc (Obj.cells #[] 9)).cell? ⟨w.heap.size,2,none⟩=some (.slice a2 x.marks.length c2):=(World.cell?_alloc_lt _ _ _ HK2.out.lt).trans (HK2.out.cell rfl);have hba:Below w2.heap.size w2 (w2.alloc (Obj.cells #[] 9)):=(Below.refl _ _).alloc nL _;have HS5:=iH (HI.out.below StrC.holds (hB2.trans (hba.mono hB2.size)) nL);have hgl:w.heap.size+1<w2.heap.size:=HZ2.out.lt;clear hba;go_upto_region 2 with (at_builtin;refine Nk rfl _ _ 68 rfl w2.heap.size 9 i0 _ 1 16 Tryz.underlying68 hi hz0 hz1 hz2 rfl (by decide) _ _ _ rfl (World.ownsRow_made w2 #[] 0 nL (Nat.zero_le _) rfl) a2 x.marks.length c2 (Bg x.marks) rfl HS5.out.nilD (by rw [Qh]) (Vq HS5.out) (Ei x.marks) (by unfold maxLen;omega) (by omega) (by simp) ?_;intro v' w3 hown hgrow hnil;have hv:v'≠.slice none 0 0:=(fun e=>by have h9:=(hnil.1 e).1;cases h9);have hown':w3.ownsRow w2.heap.size 9 1 v' x.marks.length (Bg x.marks):=(by simpa using hown);obtain ⟨g,q,rfl⟩:=Dd hown' hv;have HOW:=iH hown';have HBB:Hid (Below w2.heap.size w2 w3):=((Below.refl _ w2).alloc nL _).grown hgrow (by simp) (by intro k hk;cases hk;exact Nat.le_refl _);have HK3:=iH (HK2.out.below HBB.out HK2.out.lt);have kx:w3.cell? ⟨w.heap.size,2,none⟩=some (.slice a2 x.marks.length c2):=HK3.out.cell rfl;have fx:=HK3.out.frozen 2;clear hown hown' hgrow hnil hv);clear kx fx k5 HS5;obtain ⟨h5,hh5⟩:∃ h,h=w2.heap.size:=⟨_,rfl⟩;have P5:Hid (SliceC StrC 1 h5 w3 (some ⟨g,0,none⟩) x.marks):=by rw [hh5];exact Wm HOW.out hl (Uf HI.out)
 have hlt5:w.heap.size+1<h5:=by rw [hh5];exact hgl
 have hgg:=HOW.out.lt g rfl;have hg5:h5≤g:=by rw [hh5];exact hgg.1
 have HZ3:=iH (HZ2.out.below HBB.out HZ2.out.lt);have hB3:=hB2.trans (HBB.out.mono hB2.size);clear HOW HBB HK2 HZ2 hB2 hgl hh5;have HK4:Hid (Blk w.heap.size #[.string x.name,.string x.zone,.slice (some ⟨g,0,none⟩) x.marks.length q,.int .i64 x.room,.int .i64 x.hold,.bool x.closed] 86 (w3.setCell ⟨w.heap.size,2,none⟩ (.slice (some ⟨g,0,none⟩) x.marks.length q))):=HK3.out.set 2 _;have HZ4:Hid (Blk (w.heap.size+1) #[.string ⟨#[]⟩,.string ⟨#[]⟩,.slice none 0 0,.int .i64 0,.int .i64 0,.bool false] 86 (w3.setCell ⟨w.heap.size,2,none⟩ (.slice (some ⟨g,0,none⟩) x.marks.length q))):=HZ3.out.other (a:=⟨w.heap.size,2,none⟩) (show w.heap.size+1≠w.heap.size by omega) _;have hB4:Below w.heap.size w (w3.setCell ⟨w.heap.size,2,none⟩ (.slice (some ⟨g,0,none⟩) x.marks.length q)):=hB3.setCell (p:=⟨w.heap.size,2,none⟩) nL _;replace P5:Hid (SliceC StrC 1 h5 (w3.setCell ⟨w.heap.size,2,none⟩ (.slice (some ⟨g,0,none⟩) x.marks.length q)) (some ⟨g,0,none⟩) x.marks):=P5.out.keep StrC.holds (Keeps.set (a:=⟨w.heap.size,2,none⟩) (show w.heap.size<h5 by omega) _) nL;have hsz:(w3.setCell ⟨w.heap.size,2,none⟩ (.slice (some ⟨g,0,none⟩) x.marks.length q)).heap.size=w3.heap.size:=by simp [World.setCell]
 have hgs:g<(w3.setCell ⟨w.heap.size,2,none⟩ (.slice (some ⟨g,0,none⟩) x.marks.length q)).heap.size:=by rw [hsz];exact hgg.2
 clear HK3 HZ3 hB3 hsz hgg;generalize (w3.setCell ⟨w.heap.size,2,none⟩ (.slice (some ⟨g,0,none⟩) x.marks.length q))=w4 at *;obtain ⟨wf,HE⟩:∃ wf,Hid (wf=w4.setCells (w.heap.size+1) 0 [.string x.name,.string x.zone,.slice (some ⟨g,0,none⟩) x.marks.length q,.int .i64 x.room,.int .i64 x.hold,.bool x.closed]):=⟨_,rfl⟩;have HTS:Hid (w4.there (w.heap.size+1) 0 6):=HZ4.out.there;have HRf:Hid (wf.rangeAt (w.heap.size+1) 0 [.string x.name,.string x.zone,.slice (some ⟨g,0,none⟩) x.marks.length q,.int .i64 x.room,.int .i64 x.hold,.bool x.closed]):=by
  show World.rangeAt _ _ _ _
  rw [HE.out];exact World.rangeAt_setCells_same w4 (w.heap.size+1) 0 _ HTS.out
 have hBf:Below w.heap.size w wf:=by
  rw [HE.out];exact Ai (by omega) _ _ _ hB4
 replace P5:Hid (SliceC StrC 1 h5 wf (some ⟨g,0,none⟩) x.marks):=by
  show SliceC _ _ _ _ _ _
  rw [HE.out];exact P5.out.keep StrC.holds (Keeps.setCells (show w.heap.size+1<h5 by omega) _ _ _) nL
 have hgf:g<wf.heap.size:=by rw [HE.out,Cn];exact hgs
 clear hB4 HZ4 hgs;go_wp2_with (first | (refine wpList_load_mid rfl 86 _ rfl w.heap.size 0 rfl [.string x.name,.string x.zone,.slice (some ⟨g,0,none⟩) x.marks.length q,.int .i64 x.room,.int .i64 x.hold,.bool x.closed] _ HK4.out.rangeA Tryz.underlying86 rfl Bn ?_) | (refine Ap rfl 86 _ _ rfl (w.heap.size+1) 0 #[.string x.name,.string x.zone,.slice (some ⟨g,0,none⟩) x.marks.length q,.int .i64 x.room,.int .i64 x.hold,.bool x.closed] rfl rfl HTS.out Bn (by simp [Value.oneCell']) wf HE.out ?_));exact bodyPost_ret (Aw rfl _ _ (w.heap.size+1) [.string x.name,.string x.zone,.slice (some ⟨g,0,none⟩) x.marks.length q,.int .i64 x.room,.int .i64 x.hold,.bool x.closed] _ rfl HRf.out Tryz.underlying86 rfl Bn) rfl ⟨g,q,rfl,P5.out.keep StrC.holds (Keeps.refl _ _) (by omega),by omega,hgf,hBf⟩
def FlatC {β:Type} (C:Ed β) (m:Nat):Prop:=∀ (lo lo':Nat) (w w':World) (f g:Nat→Option Value) (x:β),(∀ i,i<m→g i=f i)→C lo w f x→C lo' w' g x
theorem FlatC.holds {β:Type} {C:Ed β} {m:Nat} (h:FlatC C m):Ep C m:=fun lo lo' w w' f g x hf _ _ hc=>h lo lo' w w' f g x hf hc
theorem StrC.flat:FlatC StrC 1:=fun _ _ _ _ _ _ _ h c=>⟨(h 0 (by omega)).trans c.1,c.2⟩
theorem LikC.flat:FlatC LikC 2:=fun _ _ _ _ _ _ _ h ⟨q0,q1,z⟩=>⟨(h 0 (by omega)).trans q0,(h 1 (by omega)).trans q1,z⟩
theorem Bv {β:Type} {C:Ed β} {m:Nat} (hC:FlatC C m) {lo:Nat} {w w':World} {row:Option Nat} {a:Option Addr} {l:List β} (h:SliceC C m lo w a l) (hg:w.grownBy w' row) (hne:∀ b o,a=some ⟨b,o,none⟩→l≠[]→some b≠row):SliceC C m lo w' a l:=by
 obtain ⟨h1,h2⟩:=h;rcases h2 with e | ⟨b,o,ea,⟨hlo,hfz⟩,hbl,hc⟩
 ·exact ⟨h1,.inl e⟩
 ·by_cases hl:l=[]
  ·exact ⟨h1,.inl hl⟩
  ·have hn:=hne b o ea hl
   exact ⟨h1,.inr ⟨b,o,ea,⟨hlo,fun hp p=>(hg.frozen_far ⟨b,p,none⟩ hbl hn).trans (hfz hp p)⟩,Nat.lt_of_lt_of_le hbl hg.size,fun j x hj=>hC lo lo w w' _ _ x (fun i _=>hg.cell_far ⟨b,o+j*m+i,none⟩ hbl hn) (hc j x hj)⟩⟩
theorem cB {base base':Nat} {e:TypeId} {size:Nat} {v:Value} {n:Nat} {xs:List Value} {w:World} (h:w.ownsRow base e size v n xs) (hb:base'≤base):w.ownsRow base' e size v n xs:=by
 refine ⟨h.1,?_⟩;rcases h.2 with h1 | ⟨g,cap,cur,h1,h2,h3⟩
 ·exact .inl h1
 ·exact .inr ⟨g,cap,cur,h1,Nat.le_trans hb h2,h3⟩
theorem Bj {P:Program} {op:Oper} {a:Act} {w:World} {K:Act→World→Prop} {Q:Exit→Act→World→Prop} (s x:Operand) (t:TypeId)
  (ho:op.op=.call { callee:=.builtin .append,args:=#[s,x],argTypes:=#[t,t] })
  (base:Nat) (e:TypeId) (i:TypeInfo) (z:Value) (size bytes:Nat) (ht:P.underlying t=some (.slice e)) (hi:P.info? e=some i) (hz:i.zero=some z)
  (hsize:i.size=size) (hby:i.bytes=bytes) (hzs:z.cells.size=size) (hsz:0<size)
  (v:Value) (n:Nat) (xs:List Value) (hs:a.eval s=v) (hown:w.ownsRow base e size v n xs)
  (ad:Addr) (m c:Nat) (news:List Value) (hx:a.eval x=.slice (some ad) m c) (hl:news.length=m*size) (hnews:∀ j u,news[j]?=some u→w.cell? (ad.add j)=some u) (h1:∀ u∈news,u.oneCell'=true)
  (h63:n+m≤maxLen) (hbytes:(n+m)*bytes≤140737488355328) (hbase:base≤w.heap.size)
  (h:∀ v' w',w'.ownsRow base e size v' (n+m) (xs++news)→w.grownBy w' v.ownBlock→(v'=.slice none 0 0↔v=.slice none 0 0∧m=0)→(v'.ownBlock=v.ownBlock∨v'.ownBlock=some w.heap.size)→K (a.put op.dst v') w'):op.wp P a w K Q:=by
 obtain ⟨v',w',hr,h2,h3,h4,h5⟩:=run_append_own_at (P:=P) w base t op.type e i z size bytes ht hi hz hsize hby hzs hsz v n xs hown ad m c news hl hnews h1 h63 hbytes hbase;unfold Oper.wp;simp [execOp,ho,resolve,invoke,builtin,hs,hx,hr,Result.andThen];exact h v' w' h2 h3 h4 h5
theorem Ub (w:World) (a:Addr) (v:Value):w.grownBy (w.setCell a v) (some a.block) :=
 ⟨rfl,rfl,rfl,by simp [World.setCell],fun k _ hn=>Below.heap_setCell w a v k (fun e=>hn (by rw [e]))⟩
theorem Ch {b:Nat}:∀ (vs:List Value) (o:Nat) (w:World),w.grownBy (w.setCells b o vs) (some b)
 | [],_,_=>⟨rfl,rfl,rfl,Nat.le_refl _,fun _ _ _=>rfl⟩
 | v::r,o,w=>(Ub w ⟨b,o,none⟩ v).trans (Ch r (o+1) _)
section
variable {α β:Type} {V:α→Value→List Value} {sub:α→List β} {C:Ed β} {m n:Nat}
def NAt (V:α→Value→List Value) (sub:α→List β) (C:Ed β) (m n base:Nat) (v:Value) (w:World) (cs:List Value) (l:List α):Prop :=
 ∀ j x,l[j]?=some x→∃ (ae:Option Addr) (ce:Nat),(∀ i u,(V x (.slice ae (sub x).length ce))[i]?=some u→cs[j*n+i]?=some u)∧SliceC C m base w ae (sub x)∧∀ b o,ae=some ⟨b,o,none⟩→sub x≠[]→some b≠v.ownBlock∧b<w.heap.size
def OwnN (V:α→Value→List Value) (sub:α→List β) (C:Ed β) (m n:Nat) (T:TypeId) (base:Nat) (w:World) (v:Value) (l:List α):Prop :=
 ∃ cs,w.ownsRow base T n v l.length cs∧NAt V sub C m n base v w cs l
theorem OwnN.nil {T:TypeId} {base:Nat} {w:World}:OwnN V sub C m n T base w (.slice none 0 0) []:=⟨[],World.ownsRow_nil _ _ _ _,fun j x h=>by cases h⟩
theorem OwnN.below {T:TypeId} {base:Nat} {w w':World} {v:Value} {l:List α} (hC:Ep C m) (h:OwnN V sub C m n T base w v l) (hb:Below w.heap.size w w'):OwnN V sub C m n T base w' v l:=by
 obtain ⟨cs,h1,h2⟩:=h;refine ⟨cs,Ao h1 hb,fun j x hj=>?_⟩;obtain ⟨ae,ce,q1,q2,q3⟩:=h2 j x hj;exact ⟨ae,ce,q1,q2.below hC hb nL,fun b o e hn=>⟨(q3 b o e hn).1,Nat.lt_of_lt_of_le (q3 b o e hn).2 hb.size⟩⟩
theorem OwnN.kept {T:TypeId} {base:Nat} {w w':World} {v:Value} {l:List α} {row:Option Nat} (hC:FlatC C m) (h:OwnN V sub C m n T base w v l) (hg:w.grownBy w' row) (hr:∀ r,row=some r→r<base):OwnN V sub C m n T base w' v l:=by
 obtain ⟨cs,h1,h2⟩:=h;have hv:v.ownBlock=none∨v.ownBlock≠row:=by
  cases e:v.ownBlock with
  | none=>exact .inl rfl
  | some k =>
   refine .inr (fun e2=>?_);have:=(h1.lt k e).1;have:=hr k e2.symm;omega
 refine ⟨cs,h1.kept hg hv,fun j x hj=>?_⟩;obtain ⟨ae,ce,q1,q2,q3⟩:=h2 j x hj;refine ⟨ae,ce,q1,Bv hC q2 hg (fun b o e hn e2=>?_),fun b o e hn=>⟨(q3 b o e hn).1,Nat.lt_of_lt_of_le (q3 b o e hn).2 hg.size⟩⟩;have hb:=hr b e2.symm;rcases q2.2 with h9 | ⟨b',o',e',⟨hlo,_⟩,_⟩
 ·exact hn h9
 ·rw [e] at e'
  cases e'
  omega
theorem OwnN.mono {T:TypeId} {base base':Nat} {w:World} {v:Value} {l:List α} (hC:Ep C m) (h:OwnN V sub C m n T base w v l) (hb:base'≤base):OwnN V sub C m n T base' w v l:=by
 obtain ⟨cs,h1,h2⟩:=h;refine ⟨cs,cB h1 hb,fun j x hj=>?_⟩;obtain ⟨ae,ce,q1,q2,q3⟩:=h2 j x hj;exact ⟨ae,ce,q1,q2.keep hC (Keeps.refl _ _) hb,q3⟩
theorem OwnN.snoc {T:TypeId} {base:Nat} {w w':World} {v v':Value} {l:List α} {x:α} {ae:Option Addr} {ce:Nat} {cs:List Value} (hC:FlatC C m) (h1:w.ownsRow base T n v l.length cs) (h2:NAt V sub C m n base v w cs l) (hV:∀ x s,(V x s).length=n)
  (hs:SliceC C m base w ae (sub x)) (hb:∀ b o,ae=some ⟨b,o,none⟩→sub x≠[]→some b≠v.ownBlock∧b<w.heap.size)
  (ho:w'.ownsRow base T n v' (l.length+1) (cs++V x (.slice ae (sub x).length ce))) (hg:w.grownBy w' v.ownBlock) (hv:v'.ownBlock=v.ownBlock∨v'.ownBlock=some w.heap.size):OwnN V sub C m n T base w' v' (l++[x]):=by
 have far:∀ b:Nat,some b≠v.ownBlock∧b<w.heap.size→some b≠v'.ownBlock∧b<w'.heap.size:=by
  intro b hb;refine ⟨?_,Nat.lt_of_lt_of_le hb.2 hg.size⟩;rcases hv with e | e
  ·rw [e];exact hb.1
  ·rw [e];intro e2;cases e2;omega
 have hl:cs.length=l.length*n:=h1.1;refine ⟨_,by simpa using ho,fun j c hj=>?_⟩;by_cases hlt:j<l.length
 ·rw [List.getElem?_append_left hlt] at hj
  obtain ⟨ae',ce',q1,q2,q3⟩:=h2 j c hj;refine ⟨ae',ce',fun i u hu=>?_,Bv hC q2 hg (fun b o e hn=>(q3 b o e hn).1),fun b o e hn=>far b (q3 b o e hn)⟩;have hi:i<n:=by have:=Ad hu;rwa [hV] at this
  have:(j+1)*n≤l.length*n:=Nat.mul_le_mul_right n (by omega);rw [Nat.add_mul] at this;rw [List.getElem?_append_left (by rw [hl];omega)];exact q1 i u hu
 ·have hje:j=l.length:=by have:=Ad hj;simp at this;omega
  subst hje;simp at hj;subst hj;refine ⟨ae,ce,fun i u hu=>?_,Bv hC hs hg (fun b o e hn=>(hb b o e hn).1),fun b o e hn=>far b (hb b o e hn)⟩;rw [List.getElem?_append_right (by rw [hl];omega),hl,Nat.add_sub_cancel_left];exact hu
theorem OwnN.slice {XC:Ed α} {T:TypeId} {base:Nat} {w:World} {a:Option Addr} {q:Nat} {l:List α} (h:OwnN V sub C m n T base w (.slice a l.length q) l) (hV:∀ x s,(V x s).length=n) (hm:l.length≤maxLen)
  (hX:∀ (f:Nat→Option Value) (x:α) (ae:Option Addr) (ce:Nat),x∈l→(∀ i u,(V x (.slice ae (sub x).length ce))[i]?=some u→f i=some u)→SliceC C m base w ae (sub x)→XC base w f x):SliceC XC n base w a l:=by
 obtain ⟨cs,h1,h2⟩:=h;rcases h1.2 with ⟨hv,_⟩ | ⟨g,cap,cur,hv,hb,hg,_⟩
 ·have:l.length=0:=by injection hv
  rw [List.length_eq_zero_iff.1 this];exact SliceC.nil
 ·have ea:a=some ⟨g,0,none⟩:=by injection hv
  subst ea;refine ⟨hm,.inr ⟨g,0,rfl,⟨hb,fun _ p=>h1.frozenAt p⟩,(Array.getElem?_eq_some_iff.1 hg).1,fun j x hj=>?_⟩⟩;have hlt:=Ad hj;obtain ⟨ae,ce,q1,q2,_⟩:=h2 j x hj;refine hX _ x ae ce (List.mem_of_getElem? hj) (fun i u hu=>?_) q2;have hi:i<n:=by have:=Ad hu;rwa [hV] at this
  have hj2:(j+1)*n≤l.length*n:=Nat.mul_le_mul_right n (by omega);rw [Nat.add_mul] at hj2;have:=h1.cellAt (j*n+i) (by omega);rw [q1 i u hu] at this;simpa using this
end
def vBr (x:Brt) (s:Value):List Value:=[.string x.name,.string x.zone,s,.int .i64 x.room,.int .i64 x.hold,.bool x.closed]
def vCp (x:Cpy) (s:Value):List Value:=[.string x.name,.string x.service,.int .i64 x.rank,.int .i64 x.born,.int .i64 x.room,.int .i64 x.hold,.string x.select,s,.int .i64 x.apart,.string x.near,.string x.fixed,.string x.at_]
theorem jD (x:Brt) (s:Value):(vBr x s).length=6:=rfl
theorem iU (x:Cpy) (s:Value):(vCp x s).length=12:=rfl
abbrev mJ (base:Nat) (w:World) (v:Value) (l:List Brt):Prop:=OwnN vBr Brt.marks StrC 1 6 86 base w v l
abbrev mN (base:Nat) (w:World) (v:Value) (l:List Cpy):Prop:=OwnN vCp Cpy.likes LikC 2 12 83 base w v l
def SzB (l:List Brt):Prop:=∀ x∈l,x.name.size≤maxLen∧x.zone.size≤maxLen
def SzC (l:List Cpy):Prop:=∀ x∈l,x.name.size≤maxLen∧x.service.size≤maxLen∧x.select.size≤maxLen∧x.near.size≤maxLen∧x.fixed.size≤maxLen∧x.at_.size≤maxLen
theorem SzB.of {lo:Nat} {w:World} {a:Option Addr} {l:List Brt} (h:SliceC BrtC 6 lo w a l):SzB l:=by
 intro x hx;obtain ⟨j,hj⟩:=List.getElem?_of_mem hx;obtain ⟨_,_,_,_,_,hc⟩:=h.at hj;obtain ⟨_,_,_,_,_,_,_,_,z0,z1,_⟩:=hc;exact ⟨z0,z1⟩
theorem SzC.of {lo:Nat} {w:World} {a:Option Addr} {l:List Cpy} (h:SliceC CpyC 12 lo w a l):SzC l:=by
 intro x hx;obtain ⟨j,hj⟩:=List.getElem?_of_mem hx;obtain ⟨_,_,_,_,_,hc⟩:=h.at hj;obtain ⟨_,_,_,_,_,_,_,_,_,_,_,_,_,_,z0,z1,z6,z9,z10,z11,_⟩:=hc;exact ⟨z0,z1,z6,z9,z10,z11⟩
theorem OwnN.berths {base:Nat} {w:World} {a:Option Addr} {q:Nat} {l:List Brt} (h:mJ base w (.slice a l.length q) l) (hz:SzB l) (hm:l.length≤maxLen):SliceC BrtC 6 base w a l :=
 OwnN.slice h jD hm (fun _ x ae ce hx hf hs=>⟨ae,ce,hf 0 _ rfl,hf 1 _ rfl,hf 2 _ rfl,hf 3 _ rfl,hf 4 _ rfl,hf 5 _ rfl,(hz x hx).1,(hz x hx).2,hs⟩)
theorem OwnN.copies {base:Nat} {w:World} {a:Option Addr} {q:Nat} {l:List Cpy} (h:mN base w (.slice a l.length q) l) (hz:SzC l) (hm:l.length≤maxLen):SliceC CpyC 12 base w a l :=
 OwnN.slice h iU hm (fun _ x ae ce hx hf hs=>⟨ae,ce,hf 0 _ rfl,hf 1 _ rfl,hf 2 _ rfl,hf 3 _ rfl,hf 4 _ rfl,hf 5 _ rfl,hf 6 _ rfl,hf 7 _ rfl,hf 8 _ rfl,hf 9 _ rfl,hf 10 _ rfl,hf 11 _ rfl,(hz x hx).1,(hz x hx).2.1,(hz x hx).2.2.1,(hz x hx).2.2.2.1,(hz x hx).2.2.2.2.1,(hz x hx).2.2.2.2.2,hs⟩)
end Go.Proofs.YtpeajnkkdioflaaGreat
