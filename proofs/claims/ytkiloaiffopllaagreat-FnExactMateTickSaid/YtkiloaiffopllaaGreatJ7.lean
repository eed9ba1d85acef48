import Derived.Test.YtkiloaiffopllaaGreatRn
import Derived.Laws.Cover1
import Derived.Test.YtkiloaiffopllaaGreatTk3
import Derived.Shelf.Abstract
set_option maxHeartbeats 2000000
namespace Go.Proofs.YtkiloaiffopllaaGreat
set_option maxRecDepth 100000
open Go.RowKit
theorem Lg {a b:BA} (h:¬ a=b):(a.toList == b.toList)=false:=by
 rw [ByteArray.toList_eq,ByteArray.toList_eq]
 have:¬ a.data.toList=b.data.toList:=fun e=>h (by
  cases a with | mk x=>cases b with | mk y=>cases x;cases y;simp at e;simp [e])
 simpa using this
theorem dF {a b:BA} (h:a=b):(a.toList == b.toList)=true:=by subst h;simp
def inR (n a b:Int):Bool:=decide (a≤n) && decide (n≤b)
theorem Hw {n a b:Int} (h:a≤n) (h2:n≤b):inR n a b=true:=by simp [inR,h,h2]
theorem Ks {n a b:Int} (h:n<a):inR n a b=false:=by simp [inR];intro;omega
theorem Kk {n a b:Int} (h:b<n):inR n a b=false:=by simp [inR];intro;omega
theorem Bb (n a b:Int) (w:World) :
  Calls Tryz.prog 19 #[.int .i64 n,.int .i64 a,.int .i64 b] w fun e w'=>e=.returned (.bool (inR n a b))∧w'=w:=by
 by_cases h1:a≤n
 ·by_cases h2:n≤b
  ·have HC:Hid (inR n a b=true):=Hw h1 h2
   go_enter Tryz.func19,Tryz.ntmps19;go_wp2_with fail;go_ret;exact ⟨Ac HC.out.symm,rfl⟩
  ·have h2':b<n:=by omega
   have HC:Hid (inR n a b=false):=Kk h2';clear h2;go_enter Tryz.func19,Tryz.ntmps19;go_wp2_with fail;go_ret;exact ⟨Ac (by rw [HC.out];simp;omega),rfl⟩
 ·have h1':n<a:=by omega
  have HC:Hid (inR n a b=false):=Ks h1';clear h1;go_enter Tryz.func19,Tryz.ntmps19;go_wp2_with fail;go_ret;exact ⟨Ac HC.out.symm,rfl⟩
theorem De (n a b:Int) (w:World) :
  Calls Tryz.prog 28 #[.int .i64 n,.int .i64 a,.int .i64 b] w fun e w'=>e=.returned (.bool (inR n a b))∧w'=w:=by
 by_cases h1:a≤n
 ·by_cases h2:n≤b
  ·have HC:Hid (inR n a b=true):=Hw h1 h2
   go_enter Tryz.func28,Tryz.ntmps28;go_wp2_with fail;go_ret;exact ⟨Ac HC.out.symm,rfl⟩
  ·have h2':b<n:=by omega
   have HC:Hid (inR n a b=false):=Kk h2';clear h2;go_enter Tryz.func28,Tryz.ntmps28;go_wp2_with fail;go_ret;exact ⟨Ac (by rw [HC.out];simp;omega),rfl⟩
 ·have h1':n<a:=by omega
  have HC:Hid (inR n a b=false):=Ks h1';clear h1;go_enter Tryz.func28,Tryz.ntmps28;go_wp2_with fail;go_ret;exact ⟨Ac HC.out.symm,rfl⟩
def seen (c:UInt8):Bool:=decide (33≤c.toNat∧c.toNat≤126)
def nmB (s:BA):Bool:=decide (1≤s.size∧s.size≤20) && s.data.toList.all seen
theorem Sf {s:BA} (h:¬ (1≤s.size∧s.size≤20)):nmB s=false:=by
 unfold nmB;rw [decide_eq_false h,Bool.false_and]
theorem Vn {s:BA} (h:1≤s.size∧s.size≤20) (hl:(s.data.toList.take s.size).all seen=true):nmB s=true:=by
 unfold nmB;rw [List.take_of_length_le (by simp)] at hl;rw [decide_eq_true h,hl];rfl
theorem Qb {s:BA} {k:Nat} (hk:k<s.size) (h:seen s[k]=false):nmB s=false:=by
 unfold nmB;have:s.data.toList.all seen=false:=by
  rw [List.all_eq_false];exact ⟨s[k],by simp [ByteArray.getElem_eq_getElem_data],by simp [h]⟩
 rw [this,Bool.and_false]
theorem Lv (s:BA) (k:Nat) (h:k<s.size):s.data.toList.take (k+1)=s.data.toList.take k++[s[k]]:=by
 have hl:k<s.data.toList.length:=by simpa using h
 rw [List.take_add_one,gE hl];rfl
def hdB (s:BA):Bool:=nmB s && !(s.toList == [42])
theorem Cv (s:BA) (w:World) (hs:s.size≤maxLen) :
  Calls Tryz.prog 51 #[.string s] w fun e w'=>e=.returned (.bool (nmB s))∧w'=w:=by
 unfold maxLen at hs;by_cases hsz:1≤s.size∧s.size≤20
 ·obtain ⟨h1,h2⟩:=hsz
  have hin:inR s.size 1 20=true:=Hw (by omega) (by omega);go_enter Tryz.func51,Tryz.ntmps51;go_wp2_with (go_at_call 19;refine (Bb _ _ _ _).mono ?_;rintro e w' ⟨rfl,rfl⟩;rw [hin])
  go_loop [3] (fun i=>∃ k:Nat,k≤s.size∧i=.int .i64 k∧Hid ((s.data.toList.take k).all seen=true)) (fun i=>s.size - (intOf i).toNat)
  case atStart=>exact ⟨0,zL,rfl,rfl⟩
  case round =>
   obtain ⟨k,hk,rfl,HA⟩:=hrel;by_cases hlt:k<s.size
   ·have hc:s[k].toNat<256:=s[k].toNat_lt
    by_cases c1:s[k].toNat<33
    ·have HN:Hid (nmB s=false):=Qb hlt (by unfold seen;simp;omega)
     have i1:((s[k].toNat:Int))<33:=by omega
     go_wp2_with fail;go_ret;exact ⟨Ac HN.out.symm,rfl⟩
    ·have i1:(33:Int)≤(s[k].toNat:Int):=by omega
     by_cases c2:126<s[k].toNat
     ·have HN:Hid (nmB s=false):=Qb hlt (by unfold seen;simp;omega)
      have i2:(126:Int)<(s[k].toNat:Int):=by omega
      clear c1;go_wp2_with fail;go_ret;exact ⟨Ac HN.out.symm,rfl⟩
     ·have HL:Hid (seen s[k]=true):=by show _=_;unfold seen;simp;omega
      have i2:(s[k].toNat:Int)≤126:=by omega
      have HT:Hid ((s.data.toList.take (k+1)).all seen=true):=by
       show _=true
       rw [Lv s k hlt,List.all_append,HA.out];simp [HL.out]
      clear c1 c2;go_wp2_with fail
      go_round
      case rel=>exact ⟨k+1,by omega,by go_num,HT⟩
      case measure=>simp [intOf];omega
   ·go_wp2_with fail
    go_ret;have hke:k=s.size:=by omega
    exact ⟨Ac (Vn ⟨h1,h2⟩ (by rw [← hke];exact HA.out)).symm,rfl⟩
 ·have hin:inR s.size 1 20=false:=by
   by_cases h:(s.size:Int)<1
   ·exact Ks h
   ·exact Kk (by omega)
  have HN:Hid (nmB s=false):=Sf hsz;clear hsz;go_enter Tryz.func51,Tryz.ntmps51;go_wp2_with (go_at_call 19;refine (Bb _ _ _ _).mono ?_;rintro e w' ⟨rfl,rfl⟩;rw [hin]);go_ret;exact ⟨Ac HN.out.symm,rfl⟩
theorem Ig (s:BA) (w:World) (hs:s.size≤maxLen) :
  Calls Tryz.prog 123 #[.string s] w fun e w'=>e=.returned (.bool (nmB s))∧w'=w:=by
 unfold maxLen at hs;by_cases hsz:1≤s.size∧s.size≤20
 ·obtain ⟨h1,h2⟩:=hsz
  have hin:inR s.size 1 20=true:=Hw (by omega) (by omega);go_enter Tryz.func123,Tryz.ntmps123;go_wp2_with (go_at_call 28;refine (De _ _ _ _).mono ?_;rintro e w' ⟨rfl,rfl⟩;rw [hin])
  go_loop [10] (fun i=>∃ k:Nat,k≤s.size∧i=.int .i64 k∧Hid ((s.data.toList.take k).all seen=true)) (fun i=>s.size - (intOf i).toNat)
  case atStart=>exact ⟨0,zL,rfl,rfl⟩
  case round =>
   obtain ⟨k,hk,rfl,HA⟩:=hrel;by_cases hlt:k<s.size
   ·have hc:s[k].toNat<256:=s[k].toNat_lt
    by_cases c1:s[k].toNat<33
    ·have HN:Hid (nmB s=false):=Qb hlt (by unfold seen;simp;omega)
     have i1:((s[k].toNat:Int))<33:=by omega
     go_wp2_with fail;go_ret;exact ⟨Ac HN.out.symm,rfl⟩
    ·have i1:(33:Int)≤(s[k].toNat:Int):=by omega
     by_cases c2:126<s[k].toNat
     ·have HN:Hid (nmB s=false):=Qb hlt (by unfold seen;simp;omega)
      have i2:(126:Int)<(s[k].toNat:Int):=by omega
      clear c1;go_wp2_with fail;go_ret;exact ⟨Ac HN.out.symm,rfl⟩
     ·have HL:Hid (seen s[k]=true):=by show _=_;unfold seen;simp;omega
      have i2:(s[k].toNat:Int)≤126:=by omega
      have HT:Hid ((s.data.toList.take (k+1)).all seen=true):=by
       show _=true
       rw [Lv s k hlt,List.all_append,HA.out];simp [HL.out]
      clear c1 c2;go_wp2_with fail
      go_round
      case rel=>exact ⟨k+1,by omega,by go_num,HT⟩
      case measure=>simp [intOf];omega
   ·go_wp2_with fail
    go_ret;have hke:k=s.size:=by omega
    exact ⟨Ac (Vn ⟨h1,h2⟩ (by rw [← hke];exact HA.out)).symm,rfl⟩
 ·have hin:inR s.size 1 20=false:=by
   by_cases h:(s.size:Int)<1
   ·exact Ks h
   ·exact Kk (by omega)
  have HN:Hid (nmB s=false):=Sf hsz;clear hsz;go_enter Tryz.func123,Tryz.ntmps123;go_wp2_with (go_at_call 28;refine (De _ _ _ _).mono ?_;rintro e w' ⟨rfl,rfl⟩;rw [hin]);go_ret;exact ⟨Ac HN.out.symm,rfl⟩
theorem Dq (s:BA) (w:World) (hs:s.size≤maxLen) :
  Calls Tryz.prog 96 #[.string s] w fun e w'=>e=.returned (.bool (hdB s))∧w'=w:=by
 have HC:Hid (hdB s=(nmB s && !(s.toList == [42]))):=rfl;generalize hdB s=D at *;go_enter Tryz.func96,Tryz.ntmps96;go_wp2_with fail;refine (Cv s _ hs).mono ?_;rintro e w1 ⟨rfl,rfl⟩
 cases h:nmB s with
 | false =>
  rw [h] at HC;go_wp2_with fail;go_ret;exact ⟨Ac HC.out.symm,rfl⟩
 | true =>
  rw [h] at HC;go_wp2_with fail;go_ret;refine ⟨Ac ?_,rfl⟩;rw [HC.out];simp
theorem Pf (s:BA) (w:World) (hs:s.size≤maxLen) :
  Calls Tryz.prog 139 #[.string s] w fun e w'=>e=.returned (.bool (hdB s))∧w'=w:=by
 have HC:Hid (hdB s=(nmB s && !(s.toList == [42]))):=rfl;generalize hdB s=D at *;go_enter Tryz.func139,Tryz.ntmps139;go_wp2_with fail;refine (Ig s _ hs).mono ?_;rintro e w1 ⟨rfl,rfl⟩
 cases h:nmB s with
 | false =>
  rw [h] at HC;go_wp2_with fail;go_ret;exact ⟨Ac HC.out.symm,rfl⟩
 | true =>
  rw [h] at HC;go_wp2_with fail;go_ret;refine ⟨Ac ?_,rfl⟩;rw [HC.out];simp
def wnB (x:Wnt):Bool:=nmB x.copy && inR x.version 1 1000000 && (x.hold.toList == [] || hdB x.hold) && inR x.pull 0 100 && inR x.start 0 100 && inR x.dies 0 100 && inR x.grace 0 100
theorem Em (n:Int) (w:World) :
  Calls Tryz.prog 170 #[.int .i64 n] w fun e w'=>e=.returned (.bool (inR n 0 100))∧w'=w:=by
 go_enter Tryz.func170,Tryz.ntmps170;go_wp2_with fail;refine (De _ _ _ _).mono ?_;rintro e w1 ⟨rfl,rfl⟩;go_wp2_with fail;go_ret;exact ⟨rfl,rfl⟩
def alB (s:Int):Bool:=decide (s=3) || (decide (s=4) || decide (s=6))
theorem Qk {s:Int} (h3:¬ s=3) (h4:¬ s=4) (h6:¬ s=6):alB s=false:=by simp [alB,h3,h4,h6]
theorem Tp (s:Int) (w:World) :
  Calls Tryz.prog 128 #[.int .i64 s] w fun e w'=>e=.returned (.bool (alB s))∧w'=w:=by
 by_cases h3:s=3
 ·subst h3
  go_enter Tryz.func128,Tryz.ntmps128;go_wp2_with fail;go_ret;exact ⟨rfl,rfl⟩
 by_cases h4:s=4
 ·subst h4
  clear h3;go_enter Tryz.func128,Tryz.ntmps128;go_wp2_with fail;go_ret;exact ⟨rfl,rfl⟩
 by_cases h6:s=6
 ·subst h6
  clear h3 h4;go_enter Tryz.func128,Tryz.ntmps128;go_wp2_with fail;go_ret;exact ⟨rfl,rfl⟩
 have HC:Hid (alB s=false):=Qk h3 h4 h6;have HD:Hid ((s == 3 || s == 4 || s == 6)=false):=by show _=_;simp [h3,h4,h6]
 generalize alB s=D at *;go_enter Tryz.func128,Tryz.ntmps128;go_wp2_with fail;go_ret;exact ⟨Ac (HD.out.trans HC.out.symm),rfl⟩
theorem Av (x:Rn) (w:World) :
  Calls Tryz.prog 56 #[.agg (rrA x)] w fun e w'=>e=.returned (.bool (alB x.state))∧Below w.heap.size w w':=by
 try unfold rrA
 generalize x.state=s;by_cases h3:s=3
 ·subst h3
  go_enter Tryz.func56,Tryz.ntmps56;go_wp2_with fail;go_ret;exact ⟨rfl,by go_grown⟩
 by_cases h4:s=4
 ·subst h4
  clear h3;go_enter Tryz.func56,Tryz.ntmps56;go_wp2_with fail;go_ret;exact ⟨rfl,by go_grown⟩
 by_cases h6:s=6
 ·subst h6
  clear h3 h4;go_enter Tryz.func56,Tryz.ntmps56;go_wp2_with fail;go_ret;exact ⟨rfl,by go_grown⟩
 have HC:Hid (alB s=false):=Qk h3 h4 h6;have HD:Hid ((s == 3 || s == 4 || s == 6)=false):=by show _=_;simp [h3,h4,h6]
 generalize alB s=D at *;go_enter Tryz.func56,Tryz.ntmps56;go_wp2_with fail;go_ret;exact ⟨Ac (HD.out.trans HC.out.symm),by go_grown⟩
theorem Hu (x:Rn) (w:World) :
  Calls Tryz.prog 76 #[.agg (rrA x)] w fun e w'=>e=.returned (.agg (rrA x))∧Below w.heap.size w w':=by
 go_enter Tryz.func76,Tryz.ntmps76
 go_wp2
 go_returns
 exact ⟨rfl,by go_grown⟩
theorem Gi (x:Rn) (w:World) :
  Calls Tryz.prog 112 #[.agg (rrA x)] w fun e w'=>e=.returned (.bool (alB x.state))∧Below w.heap.size w w':=by
 go_enter Tryz.func112,Tryz.ntmps112;go_wp2_with fail;refine (Tp _ _).mono ?_;rintro e w1 ⟨rfl,rfl⟩;go_wp2_with fail;go_ret;exact ⟨rfl,by go_grown⟩
theorem Im (x:Rn) (w:World) :
  Calls Tryz.prog 109 #[.agg (rrA x)] w fun e w'=>e=.returned (.bool (alB x.state))∧Below w.heap.size w w':=by
 go_enter Tryz.func109,Tryz.ntmps109;go_wp2_with fail;refine (Hu x _).mono ?_;rintro e w1 ⟨rfl,hb1⟩;have hB1:Below w.heap.size w w1:=(show Below w.heap.size w _ by go_grown).trans (hb1.mono (by simp));clear hb1;go_wp2_with fail;refine (Gi x _).mono ?_;rintro e w2 ⟨rfl,hb2⟩;have hB2:=qTr hB1 hb2;clear hb2;go_wp2_with fail;go_ret;exact ⟨rfl,hB2⟩
theorem Ge (x:Wnt) (w:World) (z0:x.copy.size≤maxLen) (z2:x.hold.size≤maxLen) :
  Calls Tryz.prog 94 #[.agg (wwA x)] w (Rt (.bool (wnB x)) w):=by
 by_cases hh:x.hold.toList=[]
 ·have HH:Hid ((x.hold.toList == [])=true):=by show _=_;simp [hh]
  go_enter Tryz.func94,Tryz.ntmps94;go_wp2_with fail;refine (Cv x.copy _ z0).mono ?_;rintro e w1 ⟨rfl,rfl⟩
  cases h0:nmB x.copy with
  | false =>
   go_wp2_with fail;go_ret;exact ⟨Ac (by unfold wnB;rw [h0];simp),by go_grown⟩
  | true =>
   go_wp2_with fail;refine (Bb x.version 1 1000000 _).mono ?_;rintro e w2 ⟨rfl,rfl⟩
   cases h1:inR x.version 1 1000000 with
   | false =>
    go_wp2_with fail;go_ret;exact ⟨Ac (by unfold wnB;rw [h0,h1];simp),by go_grown⟩
   | true =>
    go_wp2_with fail;refine (Bb x.pull 0 100 _).mono ?_;rintro e w4 ⟨rfl,rfl⟩
    cases h3:inR x.pull 0 100 with
    | false =>
     go_wp2_with fail;go_ret;exact ⟨Ac (by unfold wnB;rw [h0,h1,HH.out,h3];simp),by go_grown⟩
    | true =>
     go_wp2_with fail;refine (Bb x.start 0 100 _).mono ?_;rintro e w5 ⟨rfl,rfl⟩
     cases h4:inR x.start 0 100 with
     | false =>
      go_wp2_with fail;go_ret;exact ⟨Ac (by unfold wnB;rw [h0,h1,HH.out,h3,h4];simp),by go_grown⟩
     | true =>
      go_wp2_with fail;refine (Bb x.dies 0 100 _).mono ?_;rintro e w6 ⟨rfl,rfl⟩
      cases h5:inR x.dies 0 100 with
      | false =>
       go_wp2_with fail;go_ret;exact ⟨Ac (by unfold wnB;rw [h0,h1,HH.out,h3,h4,h5];simp),by go_grown⟩
      | true =>
       go_wp2_with fail;refine (Bb x.grace 0 100 _).mono ?_;rintro e w7 ⟨rfl,rfl⟩
       cases h6:inR x.grace 0 100 with
       | false =>
        go_wp2_with fail;go_ret;exact ⟨Ac (by unfold wnB;rw [h0,h1,HH.out,h3,h4,h5,h6];simp),by go_grown⟩
       | true =>
        go_wp2_with fail;go_ret;exact ⟨Ac (by unfold wnB;rw [h0,h1,HH.out,h3,h4,h5,h6];rfl),by go_grown⟩
 ·have HH:Hid ((x.hold.toList == [])=false):=by show _=_;simp [hh]
  go_enter Tryz.func94,Tryz.ntmps94;go_wp2_with fail;refine (Cv x.copy _ z0).mono ?_;rintro e w1 ⟨rfl,rfl⟩
  cases h0:nmB x.copy with
  | false =>
   go_wp2_with fail;go_ret;exact ⟨Ac (by unfold wnB;rw [h0];simp),by go_grown⟩
  | true =>
   go_wp2_with fail;refine (Bb x.version 1 1000000 _).mono ?_;rintro e w2 ⟨rfl,rfl⟩
   cases h1:inR x.version 1 1000000 with
   | false =>
    go_wp2_with fail;go_ret;exact ⟨Ac (by unfold wnB;rw [h0,h1];simp),by go_grown⟩
   | true =>
    go_wp2_with fail;refine (Dq x.hold _ z2).mono ?_;rintro e w3 ⟨rfl,rfl⟩
    cases h2:hdB x.hold with
    | false =>
     go_wp2_with fail;go_ret;exact ⟨Ac (by unfold wnB;rw [h0,h1,HH.out,h2];simp),by go_grown⟩
    | true =>
     go_wp2_with fail;refine (Bb x.pull 0 100 _).mono ?_;rintro e w4 ⟨rfl,rfl⟩
     cases h3:inR x.pull 0 100 with
     | false =>
      go_wp2_with fail;go_ret;exact ⟨Ac (by unfold wnB;rw [h0,h1,HH.out,h2,h3];simp),by go_grown⟩
     | true =>
      go_wp2_with fail;refine (Bb x.start 0 100 _).mono ?_;rintro e w5 ⟨rfl,rfl⟩
      cases h4:inR x.start 0 100 with
      | false =>
       go_wp2_with fail;go_ret;exact ⟨Ac (by unfold wnB;rw [h0,h1,HH.out,h2,h3,h4];simp),by go_grown⟩
      | true =>
       go_wp2_with fail;refine (Bb x.dies 0 100 _).mono ?_;rintro e w6 ⟨rfl,rfl⟩
       cases h5:inR x.dies 0 100 with
       | false =>
        go_wp2_with fail;go_ret;exact ⟨Ac (by unfold wnB;rw [h0,h1,HH.out,h2,h3,h4,h5];simp),by go_grown⟩
       | true =>
        go_wp2_with fail;refine (Bb x.grace 0 100 _).mono ?_;rintro e w7 ⟨rfl,rfl⟩
        cases h6:inR x.grace 0 100 with
        | false =>
         go_wp2_with fail;go_ret;exact ⟨Ac (by unfold wnB;rw [h0,h1,HH.out,h2,h3,h4,h5,h6];simp),by go_grown⟩
        | true =>
         go_wp2_with fail;go_ret;exact ⟨Ac (by unfold wnB;rw [h0,h1,HH.out,h2,h3,h4,h5,h6];rfl),by go_grown⟩
theorem Re (x:Wnt) (w:World) (z0:x.copy.size≤maxLen) :
  Calls Tryz.prog 184 #[.agg (wwA x)] w (Rt (.bool (nmB x.copy)) w):=by
 go_enter Tryz.func184,Tryz.ntmps184;go_wp2_with fail;refine (Ig x.copy _ z0).mono ?_;rintro e w1 ⟨rfl,rfl⟩;go_wp2_with fail;go_ret;exact ⟨rfl,by go_grown⟩
theorem Mq (x:Wnt) (w:World) :
  Calls Tryz.prog 185 #[.agg (wwA x)] w (Rt (.bool (inR x.version 1 1000000)) w):=by
 go_enter Tryz.func185,Tryz.ntmps185;go_wp2_with fail;refine (De x.version 1 1000000 _).mono ?_;rintro e w1 ⟨rfl,rfl⟩;go_wp2_with fail;go_ret;exact ⟨rfl,by go_grown⟩
theorem Rh (x:Wnt) (w:World) (z2:x.hold.size≤maxLen) :
  Calls Tryz.prog 186 #[.agg (wwA x)] w (Rt (.bool (x.hold.toList == [] || hdB x.hold)) w):=by
 by_cases hh:x.hold.toList=[]
 ·have HH:Hid ((x.hold.toList == [])=true):=by show _=_;simp [hh]
  go_enter Tryz.func186,Tryz.ntmps186;go_wp2_with fail;go_ret;exact ⟨Ac (by rw [HH.out];rfl),by go_grown⟩
 ·have HH:Hid ((x.hold.toList == [])=false):=by show _=_;simp [hh]
  go_enter Tryz.func186,Tryz.ntmps186;go_wp2_with fail;refine (Pf x.hold _ z2).mono ?_;rintro e w1 ⟨rfl,rfl⟩;go_wp2_with fail;go_ret;exact ⟨Ac (by rw [HH.out];simp [hh]),by go_grown⟩
def tkB (x:Wnt):Bool:=inR x.pull 0 100 && inR x.start 0 100 && inR x.dies 0 100 && inR x.grace 0 100
theorem Xm (x:Wnt):wnB x=(nmB x.copy && (inR x.version 1 1000000 && ((x.hold.toList == [] || hdB x.hold) && tkB x))):=by
 unfold wnB tkB;simp only [Bool.and_assoc]
theorem Qh (x:Wnt) (w:World) :
  Calls Tryz.prog 187 #[.agg (wwA x)] w (Rt (.bool (tkB x)) w):=by
 go_enter Tryz.func187,Tryz.ntmps187;go_wp2_with fail;refine (Em x.pull _).mono ?_;rintro e w1 ⟨rfl,rfl⟩
 cases h0:inR x.pull 0 100 with
 | false =>
  go_wp2_with fail;go_ret;exact ⟨Ac (by unfold tkB;rw [h0];simp),by go_grown⟩
 | true =>
  go_wp2_with fail;refine (Em x.start _).mono ?_;rintro e w2 ⟨rfl,rfl⟩
  cases h1:inR x.start 0 100 with
  | false =>
   go_wp2_with fail;go_ret;exact ⟨Ac (by unfold tkB;rw [h0,h1];simp),by go_grown⟩
  | true =>
   go_wp2_with fail;refine (Em x.dies _).mono ?_;rintro e w3 ⟨rfl,rfl⟩
   cases h2:inR x.dies 0 100 with
   | false =>
    go_wp2_with fail;go_ret;exact ⟨Ac (by unfold tkB;rw [h0,h1,h2];simp),by go_grown⟩
   | true =>
    go_wp2_with fail;refine (Em x.grace _).mono ?_;rintro e w4 ⟨rfl,rfl⟩
    cases h3:inR x.grace 0 100 with
    | false =>
     go_wp2_with fail;go_ret;exact ⟨Ac (by unfold tkB;rw [h0,h1,h2,h3];simp),by go_grown⟩
    | true =>
     go_wp2_with fail;go_ret;exact ⟨Ac (by unfold tkB;rw [h0,h1,h2,h3];rfl),by go_grown⟩
theorem Cf {w:World} {g o:Nat} {l:List Value} (h:w.rangeAt g o l):w.drew.rangeAt g o l:=by
 intro j v hj;have:=h j v hj;simpa using this
theorem Ba {w w':World} {g o B:Nat} {l:List Value} (h:w.rangeAt g o l) (hb:Below B w w') (hB:g<B):w'.rangeAt g o l:=by
 intro j v hj;rw [hb.cell (p:=⟨g,_,none⟩) hB];exact h j v hj
def Jx (rs:List (Nat×Bool)):Bool:=rs.all (·.2)
theorem Pn {rs:List (Nat×Bool)} {k:Nat} {r:Nat×Bool} (h:rs[k]?=some r) (hr:r.2=false):Jx rs=false:=by
 unfold Jx;rw [List.all_eq_false];exact ⟨r,List.mem_of_getElem? h,by simp [hr]⟩
theorem Nl {rs:List (Nat×Bool)} (h:∀ (j:Nat) q,j<rs.length→rs[j]?=some q→q.2=true):Jx rs=true:=by
 unfold Jx;rw [List.all_eq_true];intro r hr;obtain ⟨j,hj,e⟩:=List.getElem_of_mem hr;exact h j r hj (by rw [gE hj,e])
def Oq (g:Nat) (rs:List (Nat×Bool)) (w:World):Prop:=∀ (k:Nat) r,rs[k]?=some r→w.cell? ⟨g,k,none⟩=some (.func (.func r.1) #[] #[])
theorem Yq (x:Wnt) (rs:List (Nat×Bool)) (g cap:Nat) (w:World) (hrl:rs.length≤8)
  (hsay:∀ (k:Nat) r,rs[k]?=some r→∀ v,w.heap.size≤v.heap.size→Calls Tryz.prog r.1 #[.agg (wwA x)] v fun e w'=>e=.returned (.bool r.2)∧Below v.heap.size v w') (heg:∀ (k:Nat) r,rs[k]?=some r→∀ args w,(callFunc r.1 args).run Tryz.prog w=.ok (.enter r.1 args) w)
  (hR:Oq g rs w) (hg:g<w.heap.size) :
  Calls Tryz.prog 168 #[.slice (some ⟨g,0,none⟩) rs.length cap,.agg (wwA x)] w (Rt (.bool (Jx rs)) w):=by
 have HR:=iH hR;have HSAY:=iH hsay;have HEG:=iH heg;have HX0:=iH (Blk.alloc w (wwA x) 86);have hb0:=(Below.refl _ w).alloc nL (Obj.cells (wwA x) 86);clear hR hsay heg;go_enter Tryz.func168,Tryz.ntmps168;go_wp2_with fail;generalize w.alloc (Obj.cells (wwA x) 86)=w0 at *;go_loopw [9] (fun i wr=>∃ k:Nat,k≤rs.length∧i=.int .i64 k∧Hid (∀ (j:Nat) q,j<k→rs[j]?=some q→q.2=true)∧Hid (Blk w.heap.size (wwA x) 86 wr)∧Below w.heap.size w wr) (fun i _=>rs.length - (intOf i).toNat)
 case atStart=>exact ⟨0,zL,rfl,fun j q h=>by omega,HX0,hb0⟩
 case round =>
  clear HX0 hb0;obtain ⟨k,hk,rfl,hN,hX,hB⟩:=hrel;by_cases hlt:k<rs.length
  ·obtain ⟨r,hr⟩:=gXe hlt
   have c0:wr.cell? ⟨g,k,none⟩=some (.func (.func r.1) #[] #[]):=(hB.cell (p:=⟨g,k,none⟩) hg).trans (HR k r hr);have HSK:=iH (HSAY k r hr);have heg:=HEG.out k r hr;have HRR:=iH hr;obtain ⟨fid,tr⟩:=r;simp only at c0 HSK heg;clear hr;go_wp2_with (first | (refine qLk Gr hX ?_));refine (HSK wr hB.size).mono ?_;rintro e w5 ⟨rfl,hb5⟩;have HX5:=qBk hX hb5;have hB5:=qTr hB hb5;clear hb5 heg HSK c0 hX hB
   cases tr with
   | false =>
    have HE:=iH (Pn HRR rfl);go_wp2_with fail;go_ret;exact ⟨Ac HE.out.symm,hB5⟩
   | true =>
    have HN2:Hid (∀ (j:Nat) q,j<k+1→rs[j]?=some q→q.2=true):=fun j q hj hq=>by
     by_cases e:j=k
     ·subst e
      have:=HRR.out.symm.trans hq;cases this
      rfl
     ·exact hN.out j q (by omega) hq
    go_wp2_with fail;go_roundw
    case rel=>exact ⟨k+1,by omega,by go_num,HN2,HX5,hB5⟩
    case measure=>simp [intOf];omega
  ·have hke:k=rs.length:=by omega
   subst hke;have HE:=iH (Nl hN.out);go_wp2_with fail;go_ret;exact ⟨Ac HE.out.symm,hB⟩
def wnR (x:Wnt):List (Nat×Bool):=[(184,nmB x.copy),(185,inR x.version 1 1000000),(186,(x.hold.toList == [] || hdB x.hold)),(187,tkB x)]
theorem aU (x:Wnt):Jx (wnR x)=wnB x:=by
 rw [Xm];simp [Jx,wnR]
theorem Zx (x:Wnt) (z0:x.copy.size≤maxLen) (z2:x.hold.size≤maxLen):∀ (k:Nat) r,(wnR x)[k]?=some r→∀ v,Calls Tryz.prog r.1 #[.agg (wwA x)] v fun e w'=>e=.returned (.bool r.2)∧Below v.heap.size v w':=by
 intro k r hk;have h:=List.mem_of_getElem? hk;simp only [wnR,List.mem_cons,List.not_mem_nil,or_false] at h;rcases h with rfl | rfl | rfl | rfl
 ·exact fun v=>Re x v z0
 ·exact fun v=>Mq x v
 ·exact fun v=>Rh x v z2
 ·exact fun v=>Qh x v
theorem Td (x:Wnt):∀ (k:Nat) r,(wnR x)[k]?=some r→∀ args w,(callFunc r.1 args).run Tryz.prog w=.ok (.enter r.1 args) w:=by
 intro k r hk;have h:=List.mem_of_getElem? hk;simp only [wnR,List.mem_cons,List.not_mem_nil,or_false] at h;rcases h with rfl | rfl | rfl | rfl
 ·exact enters_of Tryz.func184 (by kernel_rfl) rfl
 ·exact enters_of Tryz.func185 (by kernel_rfl) rfl
 ·exact enters_of Tryz.func186 (by kernel_rfl) rfl
 ·exact enters_of Tryz.func187 (by kernel_rfl) rfl
abbrev wnV:List Value:=[.func (.func 184) #[] #[],.func (.func 185) #[] #[],.func (.func 186) #[] #[],.func (.func 187) #[] #[]]
theorem cI {g:Nat} {w:World} (x:Wnt) (h:w.rangeAt g 0 wnV):Oq g (wnR x) w:=by
 intro k r hk;have hk8:k<4:=(List.getElem?_eq_some_iff.1 hk).1;have hc:k=0∨k=1∨k=2∨k=3:=by omega
 rcases hc with rfl | rfl | rfl | rfl
 ·cases hk;simpa using h 0 _ rfl
 ·cases hk;simpa using h 1 _ rfl
 ·cases hk;simpa using h 2 _ rfl
 ·cases hk;simpa using h 3 _ rfl
theorem Lw (w:World) :
  Calls Tryz.prog 169 #[] w fun e w'=>e=.returned (.slice (some ⟨w.heap.size,0,none⟩) 4 4)∧w'.rangeAt w.heap.size 0 wnV∧w.heap.size<w'.heap.size∧Below w.heap.size w w':=by
 go_enter Tryz.func169,Tryz.ntmps169;go_wp2_with fail;go_ret;refine ⟨rfl,?_,?_,?_⟩
 ·exact Aj (by simp) (Aj (by simp) (Aj (by simp) (Aj (by simp) (Cc _ _ _))))
 ·simp
 ·go_grown
theorem Lf (x:Wnt) (w:World) (z0:x.copy.size≤maxLen) (z2:x.hold.size≤maxLen) :
  Calls Tryz.prog 149 #[.agg (wwA x)] w (Rt (.bool (wnB x)) w):=by
 have HX0:=iH (Blk.alloc w (wwA x) 86);have hb0:=(Below.refl _ w).alloc nL (Obj.cells (wwA x) 86);go_enter Tryz.func149,Tryz.ntmps149;go_upto_region 1 with fail;generalize w.alloc (Obj.cells (wwA x) 86)=w0 at *;refine wp_region_held_drew (S:=fun wy=>wy.rangeAt w.heap.size 0 (wwL x)) (by kernel_rfl) (Cf HX0.out.rangeA) (fun hS=>?_);refine tk 1 ⟨some 4,_,_,_,_,none⟩ (.agg (wwA x)) rfl (yieldsIf_load_mid rfl 86 (.tmp 1) rfl w.heap.size 0 rfl (wwL x) _ (fun _ h=>h) Tryz.underlying86 rfl Au) hS ?_;simp only [pX];refine rd1 0 ⟨some 3,_,_,_,_,none⟩ rfl (fun K hK=>?_);go_simp;refine (Lw _).mono ?_;rintro e w3 ⟨rfl,hr3,hg3,hb3⟩;have hd3:Below w0.heap.size w0 w3:=(Below.refl _ w0).drew.trans hb3;have hB3:=iH (qTr hb0 hd3);refine hK.out _ _ (Ba hS hb3 HX0.out.lt) (fun hS=>?_);clear hK K;refine rd1 2 ⟨some 5,_,_,_,_,none⟩ rfl (fun K hK=>?_);go_simp;refine (Yq x (wnR x) _ 4 w3 (by simp [wnR]) (fun k r h v _=>Zx x z0 z2 k r h v) (Td x) (cI x hr3) hg3).mono ?_;rintro e w4 ⟨rfl,hb4⟩;have hB4:=qTH hB3 hb4;rw [aU];refine hK.out _ _ (Ba hS hb4 (lL HX0.out.lt hd3.size)) (fun hS=>?_);clear hK K;refine tz 3 2 (.bool (wnB x)) rfl hS ?_;simp only [pX];refine td ?_;clear hS hb3 hb4 hd3 hb0 hr3 hg3;go_wp2_with fail;go_ret;exact ⟨rfl,hB4.out⟩
end Go.Proofs.YtkiloaiffopllaaGreat
