import Derived.Test.YtpeajnkkdioflaaGreatJ26
import Derived.Maps.AppendAt
set_option maxHeartbeats 4000000
namespace Go.Proofs.YtpeajnkkdioflaaGreat
set_option maxRecDepth 100000
open Go.RowKit
def Ix (x:Brt):Bool:=P.nameOk x.name && (P.nameOk x.zone && (Jy x.marks && (inB x.room 0 1000 && inB x.hold 0 1000)))
theorem Tp (x:Brt) (a2:Option Addr) (c2 lo:Nat) (w:World) (z0:x.name.size≤maxLen) (z1:x.zone.size≤maxLen) (hin:SliceC StrC 1 lo w a2 x.marks) :
  Calls Tryz.prog 48 #[.agg #[.string x.name,.string x.zone,.slice a2 x.marks.length c2,.int .i64 x.room,.int .i64 x.hold,.bool x.closed]] w fun e w'=>e=.returned (.bool (Ix x))∧Below w.heap.size w w':=by
 have HI:Hid (SliceC StrC 1 lo w a2 x.marks):=hin;have Z0:Hid (x.name.size≤maxLen):=z0;have Z1:Hid (x.zone.size≤maxLen):=z1;have HD:Hid (Ix x=(P.nameOk x.name && (P.nameOk x.zone && (Jy x.marks && (inB x.room 0 1000 && inB x.hold 0 1000))))):=rfl;clear hin z0 z1;generalize Ix x=V at *;go_enter Tryz.func48,Tryz.ntmps48;go_wp2_with fail;have HR:Hid ((w.alloc (Obj.cells #[.string x.name,.string x.zone,.slice a2 x.marks.length c2,.int .i64 x.room,.int .i64 x.hold,.bool x.closed] 86)).rangeAt w.heap.size 0 [.string x.name,.string x.zone,.slice a2 x.marks.length c2,.int .i64 x.room,.int .i64 x.hold,.bool x.closed]):=Aa (by simp) (Aa (by simp) (Aa (by simp) (Aa (by simp) (Aa (by simp) (Aa (by simp) (Aj _ _ _))))));have HB:Hid (Below w.heap.size w (w.alloc (Obj.cells #[.string x.name,.string x.zone,.slice a2 x.marks.length c2,.int .i64 x.room,.int .i64 x.hold,.bool x.closed] 86))):=(Below.refl _ _).alloc nL _;have HS:Hid (w.heap.size<(w.alloc (Obj.cells #[.string x.name,.string x.zone,.slice a2 x.marks.length c2,.int .i64 x.room,.int .i64 x.hold,.bool x.closed] 86)).heap.size):=by show _<_;simp
 generalize w.alloc (Obj.cells #[.string x.name,.string x.zone,.slice a2 x.marks.length c2,.int .i64 x.room,.int .i64 x.hold,.bool x.closed] 86)=w0 at *;refine (Be x.name _ Z0.out).mono ?_;rintro e w1 ⟨rfl,rfl⟩
 cases h0:P.nameOk x.name with
 | false =>
  have HC:Hid (V=false):=by show _=_;rw [HD.out,h0];rfl
  clear h0 HD;go_wp2_with fail;go_ret;exact ⟨Ae HC.out.symm,HB.out⟩
 | true =>
 rw [h0,Bool.true_and] at HD;clear h0;have e1:w1.cell? ⟨w.heap.size,1,none⟩=some (.string x.zone):=HR.out 1 _ rfl;go_wp2_with fail;clear e1;refine (Be x.zone _ Z1.out).mono ?_;rintro e w1 ⟨rfl,rfl⟩
 cases h0:P.nameOk x.zone with
 | false =>
  have HC:Hid (V=false):=by show _=_;rw [HD.out,h0];rfl
  clear h0 HD;go_wp2_with fail;go_ret;exact ⟨Ae HC.out.symm,HB.out⟩
 | true =>
 rw [h0,Bool.true_and] at HD;clear h0;have e2:w1.cell? ⟨w.heap.size,2,none⟩=some (.slice a2 x.marks.length c2):=HR.out 2 _ rfl;go_wp2_with fail;clear e2;refine (So x.marks a2 c2 lo _ (HI.out.below StrC.holds HB.out nL)).mono ?_;rintro e w2 ⟨rfl,hb⟩;have HR2:Hid (w2.rangeAt w.heap.size 0 [.string x.name,.string x.zone,.slice a2 x.marks.length c2,.int .i64 x.room,.int .i64 x.hold,.bool x.closed]):=Ac HR.out hb HS.out;have HB2:Hid (Below w.heap.size w w2):=HB.out.trans (hb.mono HB.out.size);clear hb HR HB HS
 cases h0:Jy x.marks with
 | false =>
  have HC:Hid (V=false):=by show _=_;rw [HD.out,h0];rfl
  clear h0 HD;go_wp2_with fail;go_ret;exact ⟨Ae HC.out.symm,HB2.out⟩
 | true =>
 rw [h0,Bool.true_and] at HD;clear h0;have e3:w2.cell? ⟨w.heap.size,3,none⟩=some (.int .i64 x.room):=HR2.out 3 _ rfl;go_wp2_with fail;clear e3;refine (Dr _ _ _ _).mono ?_;rintro e w3 ⟨rfl,rfl⟩
 cases h0:inB x.room 0 1000 with
 | false =>
  have HC:Hid (V=false):=by show _=_;rw [HD.out,h0];rfl
  clear h0 HD;go_wp2_with fail;go_ret;exact ⟨Ae HC.out.symm,HB2.out⟩
 | true =>
 rw [h0,Bool.true_and] at HD;clear h0;have e4:w3.cell? ⟨w.heap.size,4,none⟩=some (.int .i64 x.hold):=HR2.out 4 _ rfl;go_wp2_with fail;clear e4;refine (Dr _ _ _ _).mono ?_;rintro e w3 ⟨rfl,rfl⟩;generalize inB x.hold 0 1000=bb at *;go_wp2_with fail;go_ret;exact ⟨Ae HD.out.symm,HB2.out⟩
def Mi (xs:List Svc) (s:ByteArray):Int:=match xs.findIdx? (fun b=>decide (b.name=s)) with
 | some k=>k
 | none=>-1
theorem iS {bs:List Svc} {s:ByteArray} {k:Nat} {x:Svc} (hk:bs[k]?=some x) (h:x.name=s) (ho:∀ j b,j<k→bs[j]?=some b→b.name≠s):Mi bs s=k:=by
 have:bs.findIdx? (fun b=>decide (b.name=s))=some k:=by
  rw [List.findIdx?_eq_some_iff_getElem];obtain ⟨hlt,hx⟩:=List.getElem?_eq_some_iff.mp hk;refine ⟨hlt,by rw [hx];exact decide_eq_true h,fun j hj=>?_⟩;have:=ho j bs[j] hj (List.getElem?_eq_getElem (by omega));simpa using this
 unfold Mi;rw [this]
theorem cZ {bs:List Svc} {s:ByteArray} (ho:∀ j b,j<bs.length→bs[j]?=some b→b.name≠s):Mi bs s=-1:=by
 have:bs.findIdx? (fun b=>decide (b.name=s))=none:=by
  rw [List.findIdx?_eq_none_iff];intro b hb;obtain ⟨j,hj,e⟩:=List.mem_iff_getElem.mp hb;have:=ho j b hj (by rw [List.getElem?_eq_getElem hj,e]);simpa using this
 unfold Mi;rw [this]
theorem Tz (x:Flt) (a1:Option Addr) (c1:Nat) (a2:Option Addr) (c2:Nat) (a3:Option Addr) (c3:Nat) (lo:Nat) (s:ByteArray) (w:World) (n1:SliceC SvcC 2 lo w a2 x.services) (hl:x.services.length≤1048576) :
  Calls Tryz.prog 45 #[.agg #[.bool x.pack,.slice a1 x.berths.length c1,.slice a2 x.services.length c2,.slice a3 x.copies.length c3],.string s] w fun e w'=>e=.returned (.int .i64 (Mi x.services s))∧Below w.heap.size w w':=by
 have HI:Hid (SliceC SvcC 2 lo w a2 x.services):=n1;clear n1;generalize hbs:x.services=bs at *;clear hbs;go_enter Tryz.func45,Tryz.ntmps45;go_wp2_with fail;go_loopw [5] (fun i wr=>∃ k:Nat,k≤bs.length∧i=.int .i64 k∧wr.cell? ⟨w.heap.size,2,none⟩=some (.slice a2 bs.length c2)∧Hid (∀ j b,j<k→bs[j]?=some b→b.name≠s)∧Below w.heap.size w wr) (fun i _=>bs.length - (intOf i).toNat)
 case atStart=>exact ⟨0,Nat.zero_le _,rfl,by simp,fun j b h=>by omega,by go_grown⟩
 case round =>
  obtain ⟨k,hk,rfl,hcell,ho,hbel⟩:=hrel;by_cases hlt:k<bs.length
  ·obtain ⟨y,hx⟩:∃ x,bs[k]?=some x:=⟨bs[k],List.getElem?_eq_getElem hlt⟩
   obtain ⟨b,o,rfl,_,_,hc⟩:=(HI.out.below SvcC.holds hbel nL).at hx;obtain ⟨q0,q1,z0⟩:=hc;simp only [Nat.add_zero] at q0;have HX:Hid (bs[k]?=some y):=hx;clear hx q1 z0;by_cases h:y.name=s
   ·have HZ:Hid (Mi bs s=k):=iS HX.out h ho.out
    have ht:=Jb h;clear h;go_wp2_with fail;go_ret;exact ⟨Av HZ.out.symm,hbel⟩
   ·have ht:=Gj h
    go_wp2_with fail;go_roundw
    case rel =>
     refine ⟨k+1,by omega,by go_num,hcell,?_,hbel⟩;intro j y hj hy;by_cases e:j=k
     ·subst e
      rw [HX.out] at hy;cases hy
      exact h
     ·exact ho.out j y (by omega) hy
    case measure=>simp [intOf];omega
  ·have hke:k=bs.length:=by omega
   have HZ:Hid (Mi bs s=-1):=cZ (hke▸ho.out);go_wp2_with fail;go_ret;exact ⟨Av HZ.out.symm,hbel⟩
def Dn (cs:List Cpy) (s:ByteArray):Nat→Nat
 | 0=>0
 | k+1=>match cs[k]? with
  | some c=>if c.at_=s then Dn cs s k+1 else Dn cs s k
  | none=>Dn cs s k
theorem We (cs:List Cpy) (s:ByteArray):∀ k,Dn cs s k≤k
 | 0=>Nat.le_refl _
 | k+1=>by
  have:=We cs s k;unfold Dn
  split
  ·split <;> omega
  ·omega
theorem Ie (x:Flt) (a1:Option Addr) (c1:Nat) (a2:Option Addr) (c2:Nat) (a3:Option Addr) (c3:Nat) (lo:Nat) (s:ByteArray) (w:World) (n1:SliceC CpyC 12 lo w a3 x.copies) (hl:x.copies.length≤1048576) :
  Calls Tryz.prog 49 #[.agg #[.bool x.pack,.slice a1 x.berths.length c1,.slice a2 x.services.length c2,.slice a3 x.copies.length c3],.string s] w fun e w'=>e=.returned (.int .i64 (Dn x.copies s x.copies.length))∧Below w.heap.size w w':=by
 have HI:Hid (SliceC CpyC 12 lo w a3 x.copies):=n1;clear n1;generalize hbs:x.copies=bs at *;clear hbs;go_enter Tryz.func49,Tryz.ntmps49;go_wp2_with fail;go_loopw [5,6] (fun v i wr=>∃ (k c:Nat),k≤bs.length∧i=.int .i64 k∧v=.int .i64 c∧c≤k∧Hid (c=Dn bs s k)∧wr.cell? ⟨w.heap.size,3,none⟩=some (.slice a3 bs.length c3)∧Below w.heap.size w wr) (fun _ i _=>bs.length - (intOf i).toNat)
 case atStart=>exact ⟨0,0,Nat.zero_le _,rfl,rfl,Nat.le_refl _,rfl,by simp,by go_grown⟩
 case round =>
  obtain ⟨k,c,hk,rfl,rfl,hck,hcc,hcell,hbel⟩:=hrel;by_cases hlt:k<bs.length
  ·obtain ⟨y,hx⟩:∃ x,bs[k]?=some x:=⟨bs[k],List.getElem?_eq_getElem hlt⟩
   obtain ⟨b,o,rfl,_,_,hc⟩:=(HI.out.below CpyC.holds hbel nL).at hx;obtain ⟨a7,c7,q0,q1,q2,q3,q4,q5,q6,q7,q8,q9,q10,q11,_⟩:=hc;have HX:Hid (bs[k]?=some y):=hx;clear hx q0 q1 q2 q3 q4 q5 q6 q7 q8 q9 q10;by_cases h:y.at_=s
   ·have HN:Hid (c+1=Dn bs s (k+1)):=by show _=_;simp only [Dn,HX.out,if_pos h,← hcc.out]
    have ht:=Jb h;clear h hcc;go_wp2_with fail;go_roundw
    case rel=>exact ⟨k+1,c+1,by omega,by go_num,by go_num,by omega,HN,hcell,hbel⟩
    case measure=>simp [intOf];omega
   ·have HN:Hid (c=Dn bs s (k+1)):=by show _=_;simp only [Dn,HX.out,if_neg h,← hcc.out]
    have ht:=Gj h;clear hcc;go_wp2_with fail;go_roundw
    case rel=>exact ⟨k+1,c,by omega,by go_num,rfl,by omega,HN,hcell,hbel⟩
    case measure=>simp [intOf];omega
  ·have hke:k=bs.length:=by omega
   subst hke;go_wp2_with fail;go_ret;exact ⟨Av (by rw [hcc.out]),hbel⟩
def aE (c:UInt8):Bool:=decide (c.toNat=124∨c.toNat=38∨c.toNat=33∨c.toNat=40∨c.toNat=41∨c.toNat=61)
def Dv (l:List UInt8):Bool:=(!l.isEmpty && l.all P.letter) || (match l with | [c]=>aE c | _=>false)
theorem Ml {l:List UInt8} (hne:l≠[]) (h:∀ c∈l,P.letter c=true):Dv l=true:=by
 unfold Dv;have h1:l.all P.letter=true:=List.all_eq_true.2 h;have h2:l.isEmpty=false:=by cases l with | nil=>exact absurd rfl hne | cons a b=>rfl
 rw [h1,h2];rfl
theorem bX {c:UInt8} (h:P.letter c=false):Dv [c]=aE c:=by
 unfold Dv;simp [h]
theorem Zu {t:ByteArray} {k:Nat} (h:k<t.size):cut t k (k+1)=[t[k]]:=by
 rw [Od nL h,Nw];rfl
theorem dB {t:ByteArray} {a b:Nat} (h:a<b) (hb:b≤t.size):cut t a b≠[]:=by
 intro e;have:(cut t a b).length=b - a:=by
  unfold cut;rw [List.length_take,List.length_drop];have:t.data.toList.length=t.size:=rfl;omega
 rw [e] at this;simp at this;omega
theorem Ol (w:World) (x:Value) (T:TypeId):∀ j u,[x][j]?=some u→(w.alloc (.cells #[x] T)).cell? ((⟨w.heap.size,0,none⟩:Addr).add j)=some u:=by
 intro j u hj
 match j,hj with
 | 0,hj=>simp at hj;subst hj;simp [Addr.add]
theorem Sw (s:ByteArray):∀ u∈[Value.string s],u.oneCell'=true:=by
 intro u hu;simp at hu;subst hu;rfl
theorem Ld {w:World} {B n:Nat} {e:TypeId} {size:Nat} {v:Value} {xs:List Value} (h:w.ownsRow B e size v (n+1) xs):∃ g cap,v=.slice (some ⟨g,0,none⟩) (n+1) cap:=by
 rcases h.2 with h' | ⟨g,cap,cur,h1,_⟩
 ·exact absurd h'.2 (by omega)
 ·exact ⟨g,cap,h1⟩
def Nh (D:List (List UInt8)):List Value:=D.map fun l=>.string (P.bts l)
theorem cX:(Tryz.prog.info? 9).map (fun i=>(i.zero,i.size,i.bytes))=some (some (.string ⟨#[]⟩),1,16):=by kernel_rfl
theorem Xw (t:ByteArray) (w:World) (ht:t.size≤200) :
  Calls Tryz.prog 116 #[.string t] w fun e w'=>∃ v,e=.returned (.tuple #[v,.bool ((Ab t 0).all Dv)])∧((Ab t 0).all Dv=true→∃ g c,v=.slice (some ⟨g,0,none⟩) (Ab t 0).length c∧w'.ownsRow w.heap.size 9 1 v (Ab t 0).length (Nh (Ab t 0)))∧Below w.heap.size w w':=by
 obtain ⟨i0,hi0,hz0,hz1,hz2⟩:=info_parts cX;go_enter Tryz.func116,Tryz.ntmps116;go_wp2_with fail;go_loopw [4,5] (fun v i wr=>∃ (k g c:Nat) (D:List (List UInt8)),k≤t.size∧i=.int .i64 k∧v=.slice (some ⟨g,0,none⟩) D.length c∧Hid (Ab t 0=D++Ab t k)∧Hid (D.all Dv=true)∧D.length≤k∧Hid (wr.ownsRow w.heap.size 9 1 (.slice (some ⟨g,0,none⟩) D.length c) D.length (Nh D))∧Hid (Below w.heap.size w wr)) (fun _ i _=>t.size - (intOf i).toNat)
 case atStart=>exact ⟨0,w.heap.size,0,[],Nat.zero_le _,rfl,rfl,rfl,rfl,Nat.le_refl _,World.ownsRow_made (base:=w.heap.size) (e:=9) (size:=1) w #[] 0 nL (Nat.zero_le _) rfl,(Below.refl _ _).alloc nL _⟩
 case round =>
  obtain ⟨k,g,c,D,hk,rfl,rfl,HD,HA,hDk,HO,HB⟩:=hrel;by_cases hlt:k<t.size
  ·have i0':(0:Int)≤(k:Int):=by omega
   have i1':(k:Int)<(t.size:Int):=by omega
   by_cases hb:t[k].toNat=32
   ·have HD2:Hid (Ab t 0=D++Ab t (k+1)):=by rw [HD.out,Ku hlt (UInt8.toNat_inj.1 hb)];rfl
    go_wp2_with fail;go_roundw
    case rel=>exact ⟨k+1,g,c,D,by omega,by go_num,rfl,HD2,HA,by omega,HO,HB⟩
    case measure=>simp [intOf];omega
   ·have HS32:Hid (t[k]≠32):=fun e=>hb (by rw [e];rfl)
    have hsz:=HB.out.size;have hbq:((t[k].toNat:Int) == 32)=false:=by simp;omega
    obtain ⟨wo,hwo⟩:∃ wo,wo=wr:=⟨_,rfl⟩;subst hwo;go_wp2_with fail;go_loopw [6] (fun n wx=>∃ m,k≤m∧m≤t.size∧n=.int .i64 m∧Hid (∀ c∈cut t k m,P.letter c=true)∧wx=wo) (fun n _=>t.size - (intOf n).toNat)
    case atStart=>exact ⟨k,Nat.le_refl _,by omega,rfl,(by rw [Nw];exact (fun c h=>by simp at h)),rfl⟩
    case round =>
     obtain ⟨m,m1,m2,rfl,HC,hwx⟩:=hrel;have hwx':=hwx.symm;subst hwx';by_cases hml:m<t.size
     ·have j0:(0:Int)≤(m:Int):=by omega
      have j1:(m:Int)<(t.size:Int):=by omega
      cases hL:P.letter t[m] with
      | true =>
       have HL:Hid (P.letter t[m]=true):=hL;have HC2:Hid (∀ c∈cut t k (m+1),P.letter c=true):=by
        show ∀ c∈_,_
        rw [Od m1 hml];intro c hc;rcases List.mem_append.1 hc with hc | hc
        ·exact HC.out c hc
        ·simp at hc;rw [hc];exact hL
       clear hL;go_wp2_with (go_at_call 76;refine (Ey _ _).mono ?_;rintro e w' ⟨rfl,hww⟩;have hww':=hww.symm;subst hww';rw [HL.out]);go_roundw
       case rel=>exact ⟨m+1,by omega,by omega,by go_num,HC2,trivial⟩
       case measure=>simp [intOf];omega
      | false =>
       have HL:Hid (P.letter t[m]=false):=hL;have HST:Hid (∀ hk:m<t.size,P.letter t[m]=false):=fun _=>hL
       clear hL;by_cases hkm:m=k
       ·subst hkm
        have HTK:Hid (Ab t m=[t[m]]::Ab t (m+1)):=Ja hml HS32.out HL.out;have HOK:Hid (Dv [t[m]]=aE t[m]):=bX HL.out
        cases hsg:aE t[m] with
        | true =>
         have hsg':t[m].toNat=124∨t[m].toNat=38∨t[m].toNat=33∨t[m].toNat=40∨t[m].toNat=41∨t[m].toNat=61:=of_decide_eq_true hsg;have HD2:Hid (Ab t 0=(D++[cut t m (m+1)])++Ab t (m+1)):=by show _=_;rw [HD.out,HTK.out,Zu hml];simp
         have HA2:Hid ((D++[cut t m (m+1)]).all Dv=true):=by show _=_;rw [List.all_append,HA.out,Zu hml];simp [HOK.out,hsg]
         clear hsg HTK HOK HD HA hb;have HSG:Hid (t[m].toNat=124∨t[m].toNat=38∨t[m].toNat=33∨t[m].toNat=40∨t[m].toNat=41∨t[m].toNat=61):=hsg';clear hsg';go_upto_region 10 with (go_at_call 76;refine (Ey _ _).mono ?_;rintro e w' ⟨rfl,hww⟩;have hww':=hww.symm;subst hww';rw [HL.out])
         go_cut [67] (fun b wy=>b=.bool false∧wy=wo)
         case first =>
          rcases HSG.out with hc | hc | hc | hc | hc | hc
          all_goals
           go_wp2_with fail;go_meet;exact ⟨rfl,rfl⟩
         case rest =>
          obtain ⟨rfl,hwc⟩:=hcut;have hwc':=hwc.symm;subst hwc';go_upto_region 13 with fail;have hnm:((m:Int)+1)=((m+1:Nat):Int):=by omega
          have hn2:m<m+1∧m+1≤t.size:=by omega
          rw [hnm];clear hnm;generalize m+1=n at *;obtain ⟨hn3,hn4⟩:=hn2;have e1:(0:Int)≤(m:Int):=by omega
          have e2:(m:Int)≤(n:Int):=by omega
          have e3:(n:Int)≤(t.size:Int):=by omega
          go_wp2_with (at_builtin;refine wpList_append_own_at _ rfl (.tmp 71) (.tmp 76) 68 rfl w.heap.size 9 i0 (.string ⟨#[]⟩) 1 16 Tryz.underlying68 hi0 hz0 hz1 hz2 rfl (by decide) _ D.length (Nh D) rfl (HO.out.alloc _) ⟨wo.heap.size,0,none⟩ 1 1 [.string (t.extract m n)] rfl rfl (Ol _ _ _) (Sw _) (by unfold maxLen;omega) (by omega) (by simp;omega) ?_;intro v' w7 hown7 hgrow7 _ _;obtain ⟨g2,c2,rfl⟩:=Ld hown7);have HO2:Hid (w7.ownsRow w.heap.size 9 1 (.slice (some ⟨g2,0,none⟩) (D++[cut t m n]).length c2) (D++[cut t m n]).length (Nh (D++[cut t m n]))):=by
           have h7:=hown7;rw [Hs] at h7;show World.ownsRow _ _ _ _ _ _ _
           simpa [Nh] using h7
          have HB2:Hid (Below w.heap.size w w7):=(HB.out.alloc hsz _).grown hgrow7 (by simp;omega) (fun j hj=>by cases hj;exact (HO.out.lt g rfl).1);clear hown7 hgrow7;go_wp2_with fail;go_roundw
          case rel=>exact ⟨n,g2,c2,D++[cut t m n],by omega,by go_num,by simp,HD2,HA2,by simp;omega,HO2,HB2⟩
          case measure=>simp [intOf];omega
        | false =>
         have hsg':¬ (t[m].toNat=124∨t[m].toNat=38∨t[m].toNat=33∨t[m].toNat=40∨t[m].toNat=41∨t[m].toNat=61):=of_decide_eq_false hsg;have HF:Hid ((Ab t 0).all Dv=false):=by show _=_;rw [HD.out,List.all_append,HTK.out,List.all_cons,HOK.out,hsg];simp
         have c1:¬ (t[m].toNat:Int)=124:=by omega
         have c2:¬ (t[m].toNat:Int)=38:=by omega
         have c3:¬ (t[m].toNat:Int)=33:=by omega
         have c4:¬ (t[m].toNat:Int)=40:=by omega
         have c5:¬ (t[m].toNat:Int)=41:=by omega
         have c6:¬ (t[m].toNat:Int)=61:=by omega
         clear hsg hsg' HTK HOK HD HA;go_upto_region 10 with (go_at_call 76;refine (Ey _ _).mono ?_;rintro e w' ⟨rfl,hww⟩;have hww':=hww.symm;subst hww';rw [HL.out])
         go_cut [67] (fun b wy=>b=.bool true∧wy=wo)
         case first =>
          go_wp2_with fail
          all_goals go_meet
          refine ⟨?_,rfl⟩;simp;omega
         case rest =>
         obtain ⟨rfl,hwc⟩:=hcut;have hwc':=hwc.symm;subst hwc';go_wp2_with fail
         go_ret2
         refine ⟨_,(by rw [HF.out];rfl),?_,HB.out⟩;intro h
         exfalso
         first | (rw [HF.out] at h;cases h) | (rw [← List.all_eq_true,HF.out] at h;cases h)
       ·have hkm':¬ (m:Int)=(k:Int):=by omega
        have HTK:Hid (Ab t k=cut t k m::Ab t m):=Sx (by omega) m2 HC.out HST.out;have HD2:Hid (Ab t 0=(D++[cut t k m])++Ab t m):=by show _=_;rw [HD.out,HTK.out];simp
        have HA2:Hid ((D++[cut t k m]).all Dv=true):=by show _=_;rw [List.all_append,HA.out];simp [Ml (dB (by omega) m2) HC.out]
        clear HTK HD HA hb;go_wp2_with (first | (go_at_call 76;refine (Ey _ _).mono ?_;rintro e w' ⟨rfl,hww⟩;have hww':=hww.symm;subst hww';rw [HL.out]) | (at_builtin;refine wpList_append_own_at _ rfl (.tmp 71) (.tmp 76) 68 rfl w.heap.size 9 i0 (.string ⟨#[]⟩) 1 16 Tryz.underlying68 hi0 hz0 hz1 hz2 rfl (by decide) _ D.length (Nh D) rfl (HO.out.alloc _) ⟨wo.heap.size,0,none⟩ 1 1 [.string (t.extract k m)] rfl rfl (Ol _ _ _) (Sw _) (by unfold maxLen;omega) (by omega) (by simp;omega) ?_;intro v' w7 hown7 hgrow7 _ _;obtain ⟨g2,c2,rfl⟩:=Ld hown7));have HO2:Hid (w7.ownsRow w.heap.size 9 1 (.slice (some ⟨g2,0,none⟩) (D++[cut t k m]).length c2) (D++[cut t k m]).length (Nh (D++[cut t k m]))):=by
         have h7:=hown7;rw [Hs] at h7;show World.ownsRow _ _ _ _ _ _ _
         simpa [Nh] using h7
        have HB2:Hid (Below w.heap.size w w7):=(HB.out.alloc hsz _).grown hgrow7 (by simp;omega) (fun j hj=>by cases hj;exact (HO.out.lt g rfl).1);clear hown7 hgrow7;go_wp2_with fail;go_roundw
        case rel=>exact ⟨m,g2,c2,D++[cut t k m],by omega,by go_num,by simp,HD2,HA2,by simp;omega,HO2,HB2⟩
        case measure=>simp [intOf];omega
     ·have hme:m=t.size:=by omega
      have HST:Hid (∀ hk:m<t.size,P.letter t[m]=false):=fun h=>absurd h hml
      have hkm':¬ (m:Int)=(k:Int):=by omega
      have HTK:Hid (Ab t k=cut t k m::Ab t m):=Sx (by omega) m2 HC.out HST.out;have HD2:Hid (Ab t 0=(D++[cut t k m])++Ab t m):=by show _=_;rw [HD.out,HTK.out];simp
      have HA2:Hid ((D++[cut t k m]).all Dv=true):=by show _=_;rw [List.all_append,HA.out];simp [Ml (dB (by omega) m2) HC.out]
      clear HTK HD HA hb hme HST;have hml':¬ (m:Int)<(t.size:Int):=by omega
      clear hml;go_wp2_with (at_builtin;refine wpList_append_own_at _ rfl (.tmp 71) (.tmp 76) 68 rfl w.heap.size 9 i0 (.string ⟨#[]⟩) 1 16 Tryz.underlying68 hi0 hz0 hz1 hz2 rfl (by decide) _ D.length (Nh D) rfl (HO.out.alloc _) ⟨wo.heap.size,0,none⟩ 1 1 [.string (t.extract k m)] rfl rfl (Ol _ _ _) (Sw _) (by unfold maxLen;omega) (by omega) (by simp;omega) ?_;intro v' w7 hown7 hgrow7 _ _;obtain ⟨g2,c2,rfl⟩:=Ld hown7);have HO2:Hid (w7.ownsRow w.heap.size 9 1 (.slice (some ⟨g2,0,none⟩) (D++[cut t k m]).length c2) (D++[cut t k m]).length (Nh (D++[cut t k m]))):=by
       have h7:=hown7;rw [Hs] at h7;show World.ownsRow _ _ _ _ _ _ _
       simpa [Nh] using h7
      have HB2:Hid (Below w.heap.size w w7):=(HB.out.alloc hsz _).grown hgrow7 (by simp;omega) (fun j hj=>by cases hj;exact (HO.out.lt g rfl).1);clear hown7 hgrow7;go_wp2_with fail;go_roundw
      case rel=>exact ⟨m,g2,c2,D++[cut t k m],by omega,by go_num,by simp,HD2,HA2,by simp;omega,HO2,HB2⟩
      case measure=>simp [intOf];omega
  ·have hke:k=t.size:=by omega
   have HE:Hid (Ab t 0=D):=by rw [HD.out,Gg (by omega),List.append_nil];rfl
   go_wp2_with fail
   go_ret2
   exact ⟨_,by rw [HE.out,HA.out];rfl,fun _=>⟨g,c,by rw [HE.out];rfl,by rw [HE.out];exact HO.out⟩,HB.out⟩
end Go.Proofs.YtpeajnkkdioflaaGreat
