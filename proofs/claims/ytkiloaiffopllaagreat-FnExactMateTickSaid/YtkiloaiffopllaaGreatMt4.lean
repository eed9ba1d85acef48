import Derived.Test.YtkiloaiffopllaaGreatJ7
set_option maxHeartbeats 2000000
set_option maxRecDepth 100000
namespace Go.Proofs.YtkiloaiffopllaaGreat
open Go.RowKit
def lsB (x:Rn) (c:Int):Bool:=(x.want.hold.toList == []) || decide (wrap64 (c+4)≤x.until_)
def tkS (s l:Int):Bool:=inR l 0 100 && (!decide (s=2) || decide (l=0))
def utB (x:Rn):Bool:=inR x.until_ 0 1000016 && (!(x.want.hold.toList == []) || decide (x.until_=0))
def roB (x:Rn) (c:Int):Bool:=wnB x.want && (inR x.state 1 6 && (tkS x.state x.left && (inR x.falls 0 1000 && (utB x && (!alB x.state || lsB x c)))))
theorem Ci:(Tryz.prog.info? 111).map (·.size)=some 11:=by kernel_rfl
theorem dL:Nv 111 11:=⟨_,Tryz.underlying111,rfl,Ci⟩
theorem Kl (s:Int) (w:World) :
  Calls Tryz.prog 150 #[.int .i64 s] w fun e w'=>e=.returned (.bool (inR s 1 6))∧w'=w:=by
 by_cases h1:1≤s
 ·by_cases h2:s≤6
  ·have HC:Hid (inR s 1 6=true):=Hw h1 h2
   go_enter Tryz.func150,Tryz.ntmps150;go_wp2_with fail;go_ret;exact ⟨Ac HC.out.symm,rfl⟩
  ·have h2':6<s:=by omega
   have HC:Hid (inR s 1 6=false):=Kk h2';clear h2;go_enter Tryz.func150,Tryz.ntmps150;go_wp2_with fail;go_ret;exact ⟨Ac (by rw [HC.out];simp;omega),rfl⟩
 ·have h1':s<1:=by omega
  have HC:Hid (inR s 1 6=false):=Ks h1';clear h1;go_enter Tryz.func150,Tryz.ntmps150;go_wp2_with fail;go_ret;exact ⟨Ac HC.out.symm,rfl⟩
theorem Xl (s l:Int) (w:World) :
  Calls Tryz.prog 151 #[.int .i64 s,.int .i64 l] w fun e w'=>e=.returned (.bool (tkS s l))∧w'=w:=by
 have HC:Hid (tkS s l=(inR l 0 100 && (!decide (s=2) || decide (l=0)))):=rfl;generalize tkS s l=D at *;go_enter Tryz.func151,Tryz.ntmps151;go_wp2_with fail;refine (Em l _).mono ?_;rintro e w1 ⟨rfl,rfl⟩
 cases h:inR l 0 100 with
 | false =>
  rw [h] at HC;go_wp2_with fail;go_ret;exact ⟨Ac HC.out.symm,rfl⟩
 | true =>
  rw [h] at HC;by_cases h2:s=2
  ·subst h2
   go_wp2_with fail;go_ret;exact ⟨Ac (by rw [HC.out];simp;rfl),rfl⟩
  ·go_wp2_with fail
   go_ret;exact ⟨Ac (by rw [HC.out];simp [h2]),rfl⟩
theorem Df (x:Rn) (c:Int) (w:World) :
  Calls Tryz.prog 57 #[.agg (rrA x),.int .i64 c] w (Rt (.bool (lsB x c)) w):=by
 have HC:Hid (lsB x c=((x.want.hold.toList == []) || decide (wrap64 (c+4)≤x.until_))):=rfl;generalize lsB x c=D at *;by_cases hh:x.want.hold.toList=[]
 ·have HD:Hid (D=true):=by have:=HC.out;show _=_;simpa [hh] using this
  go_enter Tryz.func57,Tryz.ntmps57;go_wp2_with fail;go_ret;exact ⟨Ac HD.out.symm,by go_grown⟩
 ·have HD:Hid (D=decide (wrap64 (c+4)≤x.until_)):=by
   have:=HC.out;rw [show (x.want.hold.toList == [])=false by simp [hh],Bool.false_or] at this;exact this
  go_enter Tryz.func57,Tryz.ntmps57;go_wp2_with fail;go_ret;exact ⟨Ac (by rw [HD.out];simp [hh]),by go_grown⟩
theorem Gy (x:Rn) (c:Int) (w:World) :
  Calls Tryz.prog 113 #[.agg (rrA x),.int .i64 c] w (Rt (.bool (lsB x c)) w):=by
 have HC:Hid (lsB x c=((x.want.hold.toList == []) || decide (wrap64 (c+4)≤x.until_))):=rfl;generalize lsB x c=D at *;by_cases hh:x.want.hold.toList=[]
 ·have HD:Hid (D=true):=by have:=HC.out;show _=_;simpa [hh] using this
  go_enter Tryz.func113,Tryz.ntmps113;go_wp2_with fail;go_ret;exact ⟨Ac HD.out.symm,by go_grown⟩
 ·have HD:Hid (D=decide (wrap64 (c+4)≤x.until_)):=by
   have:=HC.out;rw [show (x.want.hold.toList == [])=false by simp [hh],Bool.false_or] at this;exact this
  go_enter Tryz.func113,Tryz.ntmps113;go_wp2_with fail;go_ret;exact ⟨Ac (by rw [HD.out];simp [hh]),by go_grown⟩
theorem Qy (x:Rn) (w:World) :
  Calls Tryz.prog 152 #[.agg (rrA x)] w (Rt (.bool (utB x)) w):=by
 have HC:Hid (utB x=(inR x.until_ 0 1000016 && (!(x.want.hold.toList == []) || decide (x.until_=0)))):=rfl;generalize utB x=D at *;go_enter Tryz.func152,Tryz.ntmps152;go_wp2_with fail;refine (De x.until_ 0 1000016 _).mono ?_;rintro e w1 ⟨rfl,rfl⟩
 cases h:inR x.until_ 0 1000016 with
 | false =>
  rw [h] at HC;go_wp2_with fail;go_ret;exact ⟨Ac HC.out.symm,by go_grown⟩
 | true =>
  rw [h] at HC;by_cases hh:x.want.hold.toList=[]
  ·go_wp2_with fail
   go_ret;exact ⟨Ac (by rw [HC.out];simp [hh];rfl),by go_grown⟩
  ·go_wp2_with fail
   go_ret;exact ⟨Ac (by rw [HC.out];simp [hh]),by go_grown⟩
theorem bH (x:Rn) (c:Int) (w:World) (z0:x.want.copy.size≤maxLen) (z2:x.want.hold.size≤maxLen) :
  Calls Tryz.prog 137 #[.agg (rrA x),.int .i64 c] w (Rt (.bool (roB x c)) w):=by
 have HX0:=iH (Blk.alloc w (rrA x) 111);have HC:Hid (roB x c=(wnB x.want && (inR x.state 1 6 && (tkS x.state x.left && (inR x.falls 0 1000 && (utB x && (!alB x.state || lsB x c))))))):=rfl;generalize roB x c=D at *;go_enter Tryz.func137,Tryz.ntmps137;go_wp2_with fail;refine (Lf x.want _ z0 z2).mono ?_;rintro e w1 ⟨rfl,hb1⟩;have HX1:=qBk HX0 hb1;have hB1:Below w.heap.size w w1:=(show Below w.heap.size w _ by go_grown).trans (hb1.mono (by simp));clear hb1 HX0;have k0:w1.cell? ⟨w.heap.size,0,none⟩=some (.string x.want.copy):=HX1.out.cell rfl;have k1:w1.cell? ⟨w.heap.size,1,none⟩=some (.int .i64 x.want.version):=HX1.out.cell rfl;have k2:w1.cell? ⟨w.heap.size,2,none⟩=some (.string x.want.hold):=HX1.out.cell rfl;have k3:w1.cell? ⟨w.heap.size,3,none⟩=some (.int .i64 x.want.pull):=HX1.out.cell rfl;have k4:w1.cell? ⟨w.heap.size,4,none⟩=some (.int .i64 x.want.start):=HX1.out.cell rfl;have k5:w1.cell? ⟨w.heap.size,5,none⟩=some (.int .i64 x.want.dies):=HX1.out.cell rfl;have k6:w1.cell? ⟨w.heap.size,6,none⟩=some (.int .i64 x.want.grace):=HX1.out.cell rfl;have k7:w1.cell? ⟨w.heap.size,7,none⟩=some (.int .i64 x.state):=HX1.out.cell rfl;have k8:w1.cell? ⟨w.heap.size,8,none⟩=some (.int .i64 x.left):=HX1.out.cell rfl;have k9:w1.cell? ⟨w.heap.size,9,none⟩=some (.int .i64 x.falls):=HX1.out.cell rfl;have k10:w1.cell? ⟨w.heap.size,10,none⟩=some (.int .i64 x.until_):=HX1.out.cell rfl
 cases h0:wnB x.want with
 | false =>
  rw [h0] at HC;go_wp2_with fail;go_ret;exact ⟨Ac (by rw [HC.out];simp),hB1⟩
 | true =>
  rw [h0] at HC;clear h0;go_wp2_with fail;refine (Kl x.state _).mono ?_;rintro e _ ⟨rfl,rfl⟩
  cases h1:inR x.state 1 6 with
  | false =>
   rw [h1] at HC;go_wp2_with fail;go_ret;exact ⟨Ac (by rw [HC.out];simp),hB1⟩
  | true =>
   rw [h1] at HC;clear h1;go_wp2_with fail;refine (Xl x.state x.left _).mono ?_;rintro e _ ⟨rfl,rfl⟩
   cases h2:tkS x.state x.left with
   | false =>
    rw [h2] at HC;go_wp2_with fail;go_ret;exact ⟨Ac (by rw [HC.out];simp),hB1⟩
   | true =>
    rw [h2] at HC;clear h2;go_wp2_with fail;refine (De x.falls 0 1000 _).mono ?_;rintro e _ ⟨rfl,rfl⟩
    cases h3:inR x.falls 0 1000 with
    | false =>
     rw [h3] at HC;go_wp2_with fail;go_ret;exact ⟨Ac (by rw [HC.out];simp),hB1⟩
    | true =>
     rw [h3] at HC;clear h3;go_wp2_with fail;refine (Qy x _).mono ?_;rintro e w2 ⟨rfl,hb2⟩;have HX2:=qBk HX1 hb2;have hB2:=qTr hB1 hb2;clear hb2 hB1 HX1 k0 k1 k2 k3 k4 k5 k6 k7 k8 k9 k10;have k0:w2.cell? ⟨w.heap.size,0,none⟩=some (.string x.want.copy):=HX2.out.cell rfl;have k1:w2.cell? ⟨w.heap.size,1,none⟩=some (.int .i64 x.want.version):=HX2.out.cell rfl;have k2:w2.cell? ⟨w.heap.size,2,none⟩=some (.string x.want.hold):=HX2.out.cell rfl;have k3:w2.cell? ⟨w.heap.size,3,none⟩=some (.int .i64 x.want.pull):=HX2.out.cell rfl;have k4:w2.cell? ⟨w.heap.size,4,none⟩=some (.int .i64 x.want.start):=HX2.out.cell rfl;have k5:w2.cell? ⟨w.heap.size,5,none⟩=some (.int .i64 x.want.dies):=HX2.out.cell rfl;have k6:w2.cell? ⟨w.heap.size,6,none⟩=some (.int .i64 x.want.grace):=HX2.out.cell rfl;have k7:w2.cell? ⟨w.heap.size,7,none⟩=some (.int .i64 x.state):=HX2.out.cell rfl;have k8:w2.cell? ⟨w.heap.size,8,none⟩=some (.int .i64 x.left):=HX2.out.cell rfl;have k9:w2.cell? ⟨w.heap.size,9,none⟩=some (.int .i64 x.falls):=HX2.out.cell rfl;have k10:w2.cell? ⟨w.heap.size,10,none⟩=some (.int .i64 x.until_):=HX2.out.cell rfl
     cases h4:utB x with
     | false =>
      rw [h4] at HC;go_wp2_with fail;go_ret;exact ⟨Ac (by rw [HC.out];simp),hB2⟩
     | true =>
      rw [h4] at HC;clear h4;go_wp2_with fail;refine (Gi x _).mono ?_;rintro e w3 ⟨rfl,hb3⟩;have HX3:=qBk HX2 hb3;have hB3:=qTr hB2 hb3;clear hb3 hB2 HX2 k0 k1 k2 k3 k4 k5 k6 k7 k8 k9 k10;have k0:w3.cell? ⟨w.heap.size,0,none⟩=some (.string x.want.copy):=HX3.out.cell rfl;have k1:w3.cell? ⟨w.heap.size,1,none⟩=some (.int .i64 x.want.version):=HX3.out.cell rfl;have k2:w3.cell? ⟨w.heap.size,2,none⟩=some (.string x.want.hold):=HX3.out.cell rfl;have k3:w3.cell? ⟨w.heap.size,3,none⟩=some (.int .i64 x.want.pull):=HX3.out.cell rfl;have k4:w3.cell? ⟨w.heap.size,4,none⟩=some (.int .i64 x.want.start):=HX3.out.cell rfl;have k5:w3.cell? ⟨w.heap.size,5,none⟩=some (.int .i64 x.want.dies):=HX3.out.cell rfl;have k6:w3.cell? ⟨w.heap.size,6,none⟩=some (.int .i64 x.want.grace):=HX3.out.cell rfl;have k7:w3.cell? ⟨w.heap.size,7,none⟩=some (.int .i64 x.state):=HX3.out.cell rfl;have k8:w3.cell? ⟨w.heap.size,8,none⟩=some (.int .i64 x.left):=HX3.out.cell rfl;have k9:w3.cell? ⟨w.heap.size,9,none⟩=some (.int .i64 x.falls):=HX3.out.cell rfl;have k10:w3.cell? ⟨w.heap.size,10,none⟩=some (.int .i64 x.until_):=HX3.out.cell rfl
      cases h5:alB x.state with
      | false =>
       rw [h5] at HC;go_wp2_with fail;go_ret;exact ⟨Ac (by rw [HC.out];simp),hB3⟩
      | true =>
       rw [h5] at HC;clear h5;go_wp2_with fail;refine (Gy x c _).mono ?_;rintro e w4 ⟨rfl,hb4⟩;have hB4:=qTr hB3 hb4;clear hb4 hB3 HX3;generalize lsB x c=E at *;go_wp2_with fail;go_ret;exact ⟨Ac (by rw [HC.out];simp),hB4⟩
theorem Hq (x:Rn) (c:Int) (w:World) (z0:x.want.copy.size≤maxLen) (z2:x.want.hold.size≤maxLen) :
  Calls Tryz.prog 95 #[.agg (rrA x),.int .i64 c] w (Rt (.bool (roB x c)) w):=by
 have HX0:=iH (Blk.alloc w (rrA x) 88);have HC:Hid (roB x c=(wnB x.want && (inR x.state 1 6 && ((inR x.left 0 100 && (!decide (x.state=2) || decide (x.left=0))) && (inR x.falls 0 1000 && ((inR x.until_ 0 1000016 && (!(x.want.hold.toList == []) || decide (x.until_=0))) && (!alB x.state || lsB x c))))))):=rfl;generalize roB x c=D at *;go_enter Tryz.func95,Tryz.ntmps95;go_wp2_with fail;refine (Ge x.want _ z0 z2).mono ?_;rintro e w1 ⟨rfl,hb1⟩;have HX1:=qBk HX0 hb1;have hB1:Below w.heap.size w w1:=(show Below w.heap.size w _ by go_grown).trans (hb1.mono (by simp));clear hb1 HX0;have k0:w1.cell? ⟨w.heap.size,0,none⟩=some (.string x.want.copy):=HX1.out.cell rfl;have k1:w1.cell? ⟨w.heap.size,1,none⟩=some (.int .i64 x.want.version):=HX1.out.cell rfl;have k2:w1.cell? ⟨w.heap.size,2,none⟩=some (.string x.want.hold):=HX1.out.cell rfl;have k3:w1.cell? ⟨w.heap.size,3,none⟩=some (.int .i64 x.want.pull):=HX1.out.cell rfl;have k4:w1.cell? ⟨w.heap.size,4,none⟩=some (.int .i64 x.want.start):=HX1.out.cell rfl;have k5:w1.cell? ⟨w.heap.size,5,none⟩=some (.int .i64 x.want.dies):=HX1.out.cell rfl;have k6:w1.cell? ⟨w.heap.size,6,none⟩=some (.int .i64 x.want.grace):=HX1.out.cell rfl;have k7:w1.cell? ⟨w.heap.size,7,none⟩=some (.int .i64 x.state):=HX1.out.cell rfl;have k8:w1.cell? ⟨w.heap.size,8,none⟩=some (.int .i64 x.left):=HX1.out.cell rfl;have k9:w1.cell? ⟨w.heap.size,9,none⟩=some (.int .i64 x.falls):=HX1.out.cell rfl;have k10:w1.cell? ⟨w.heap.size,10,none⟩=some (.int .i64 x.until_):=HX1.out.cell rfl
 cases h0:wnB x.want with
 | false =>
  rw [h0] at HC;go_wp2_with fail;go_ret;exact ⟨Ac (by rw [HC.out];simp),hB1⟩
 | true =>
  rw [h0] at HC;clear h0;go_wp2_with fail;refine (Bb x.state 1 6 _).mono ?_;rintro e _ ⟨rfl,rfl⟩
  cases h1:inR x.state 1 6 with
  | false =>
   rw [h1] at HC;go_wp2_with fail;go_ret;exact ⟨Ac (by rw [HC.out];simp),hB1⟩
  | true =>
   rw [h1] at HC;clear h1;go_wp2_with fail;refine (Bb x.left 0 100 _).mono ?_;rintro e _ ⟨rfl,rfl⟩
   cases h2:inR x.left 0 100 with
   | false =>
    rw [h2] at HC;go_wp2_with fail;go_ret;exact ⟨Ac (by rw [HC.out];simp),hB1⟩
   | true =>
    rw [h2] at HC;clear h2;have main:(x.state=2∧¬ x.left=0)∨¬ (x.state=2∧¬ x.left=0):=Classical.em _;rcases main with ⟨s2,l0⟩ | hok
    ·have HD:Hid (D=false):=by have:=HC.out;show _=_;simpa [s2,l0] using this
     go_wp2_with fail;go_ret;exact ⟨Ac HD.out.symm,hB1⟩
    have HD:Hid (D=(inR x.falls 0 1000 && ((inR x.until_ 0 1000016 && (!(x.want.hold.toList == []) || decide (x.until_=0))) && (!alB x.state || lsB x c)))):=by
     have:=HC.out;rw [show (!decide (x.state=2) || decide (x.left=0))=true from by by_cases e:x.state=2 <;> by_cases e2:x.left=0 <;> simp [e,e2] at hok ⊢] at this;show _=_
     simpa using this
    clear HC;have HC:=HD;clear HD;rcases (show ¬ x.state=2∨(x.state=2∧x.left=0) by omega) with s2 | ⟨s2,l0⟩
    ·skip
     go_wp2_with fail;refine (Bb x.falls 0 1000 _).mono ?_;rintro e _ ⟨rfl,rfl⟩
     cases h3:inR x.falls 0 1000 with
     | false =>
      rw [h3] at HC;go_wp2_with fail;go_ret;exact ⟨Ac (by rw [HC.out];simp),hB1⟩
     | true =>
      rw [h3] at HC;clear h3;go_upto_region 3 with fail;clear s2 hok;go_wp2_with fail;refine (Bb x.until_ 0 1000016 _).mono ?_;rintro e _ ⟨rfl,rfl⟩
      cases h4:inR x.until_ 0 1000016 with
      | false =>
       rw [h4] at HC;go_wp2_with fail;go_ret;exact ⟨Ac (by rw [HC.out];simp),hB1⟩
      | true =>
       rw [h4] at HC;clear h4;by_cases hu:x.want.hold.toList=[]∧¬ x.until_=0
       ·obtain ⟨hh,u0⟩:=hu
        have HD:Hid (D=false):=by have:=HC.out;show _=_;simpa [hh,u0] using this
        go_wp2_with fail;go_ret;exact ⟨Ac HD.out.symm,hB1⟩
       have HD:Hid (D=(!alB x.state || lsB x c)):=by
        have:=HC.out;rw [show (!(x.want.hold.toList == []) || decide (x.until_=0))=true from by by_cases e:x.want.hold.toList=[] <;> by_cases e2:x.until_=0 <;> simp [e,e2] at hu ⊢] at this;show _=_
        simpa using this
       clear HC;have hcs:¬ x.want.hold.toList=[]∨(x.want.hold.toList=[]∧x.until_=0):=by
        by_cases e:x.want.hold.toList=[]
        ·exact .inr ⟨e,Classical.byContradiction fun e2=>hu ⟨e,e2⟩⟩
        ·exact .inl e
       clear hu;rcases hcs with hh | ⟨hh,u0⟩
       ·go_upto_region 5 with fail
        clear hh;go_wp2_with fail;refine (Av x _).mono ?_;rintro e w3 ⟨rfl,hb3⟩;have HX3:=qBk HX1 hb3;have hB3:=qTr hB1 hb3;clear hb3 hB1 HX1 k0 k1 k2 k3 k4 k5 k6 k7 k8 k9 k10;have k0:w3.cell? ⟨w.heap.size,0,none⟩=some (.string x.want.copy):=HX3.out.cell rfl;have k1:w3.cell? ⟨w.heap.size,1,none⟩=some (.int .i64 x.want.version):=HX3.out.cell rfl;have k2:w3.cell? ⟨w.heap.size,2,none⟩=some (.string x.want.hold):=HX3.out.cell rfl;have k3:w3.cell? ⟨w.heap.size,3,none⟩=some (.int .i64 x.want.pull):=HX3.out.cell rfl;have k4:w3.cell? ⟨w.heap.size,4,none⟩=some (.int .i64 x.want.start):=HX3.out.cell rfl;have k5:w3.cell? ⟨w.heap.size,5,none⟩=some (.int .i64 x.want.dies):=HX3.out.cell rfl;have k6:w3.cell? ⟨w.heap.size,6,none⟩=some (.int .i64 x.want.grace):=HX3.out.cell rfl;have k7:w3.cell? ⟨w.heap.size,7,none⟩=some (.int .i64 x.state):=HX3.out.cell rfl;have k8:w3.cell? ⟨w.heap.size,8,none⟩=some (.int .i64 x.left):=HX3.out.cell rfl;have k9:w3.cell? ⟨w.heap.size,9,none⟩=some (.int .i64 x.falls):=HX3.out.cell rfl;have k10:w3.cell? ⟨w.heap.size,10,none⟩=some (.int .i64 x.until_):=HX3.out.cell rfl
        cases h5:alB x.state with
        | false =>
         rw [h5] at HD;go_wp2_with fail;go_ret;exact ⟨Ac (by rw [HD.out];simp),hB3⟩
        | true =>
         rw [h5] at HD;clear h5;go_wp2_with fail;refine (Df x c _).mono ?_;rintro e w4 ⟨rfl,hb4⟩;have hB4:=qTr hB3 hb4;clear hb4 hB3 HX3;generalize lsB x c=E at *;go_wp2_with fail;go_ret;exact ⟨Ac (by rw [HD.out];simp),hB4⟩
       ·go_upto_region 5 with fail
        clear hh u0;go_wp2_with fail;refine (Av x _).mono ?_;rintro e w3 ⟨rfl,hb3⟩;have HX3:=qBk HX1 hb3;have hB3:=qTr hB1 hb3;clear hb3 hB1 HX1 k0 k1 k2 k3 k4 k5 k6 k7 k8 k9 k10;have k0:w3.cell? ⟨w.heap.size,0,none⟩=some (.string x.want.copy):=HX3.out.cell rfl;have k1:w3.cell? ⟨w.heap.size,1,none⟩=some (.int .i64 x.want.version):=HX3.out.cell rfl;have k2:w3.cell? ⟨w.heap.size,2,none⟩=some (.string x.want.hold):=HX3.out.cell rfl;have k3:w3.cell? ⟨w.heap.size,3,none⟩=some (.int .i64 x.want.pull):=HX3.out.cell rfl;have k4:w3.cell? ⟨w.heap.size,4,none⟩=some (.int .i64 x.want.start):=HX3.out.cell rfl;have k5:w3.cell? ⟨w.heap.size,5,none⟩=some (.int .i64 x.want.dies):=HX3.out.cell rfl;have k6:w3.cell? ⟨w.heap.size,6,none⟩=some (.int .i64 x.want.grace):=HX3.out.cell rfl;have k7:w3.cell? ⟨w.heap.size,7,none⟩=some (.int .i64 x.state):=HX3.out.cell rfl;have k8:w3.cell? ⟨w.heap.size,8,none⟩=some (.int .i64 x.left):=HX3.out.cell rfl;have k9:w3.cell? ⟨w.heap.size,9,none⟩=some (.int .i64 x.falls):=HX3.out.cell rfl;have k10:w3.cell? ⟨w.heap.size,10,none⟩=some (.int .i64 x.until_):=HX3.out.cell rfl
        cases h5:alB x.state with
        | false =>
         rw [h5] at HD;go_wp2_with fail;go_ret;exact ⟨Ac (by rw [HD.out];simp),hB3⟩
        | true =>
         rw [h5] at HD;clear h5;go_wp2_with fail;refine (Df x c _).mono ?_;rintro e w4 ⟨rfl,hb4⟩;have hB4:=qTr hB3 hb4;clear hb4 hB3 HX3;generalize lsB x c=E at *;go_wp2_with fail;go_ret;exact ⟨Ac (by rw [HD.out];simp),hB4⟩
    ·skip
     go_wp2_with fail;refine (Bb x.falls 0 1000 _).mono ?_;rintro e _ ⟨rfl,rfl⟩
     cases h3:inR x.falls 0 1000 with
     | false =>
      rw [h3] at HC;go_wp2_with fail;go_ret;exact ⟨Ac (by rw [HC.out];simp),hB1⟩
     | true =>
      rw [h3] at HC;clear h3;go_upto_region 3 with fail;clear s2 l0 hok;go_wp2_with fail;refine (Bb x.until_ 0 1000016 _).mono ?_;rintro e _ ⟨rfl,rfl⟩
      cases h4:inR x.until_ 0 1000016 with
      | false =>
       rw [h4] at HC;go_wp2_with fail;go_ret;exact ⟨Ac (by rw [HC.out];simp),hB1⟩
      | true =>
       rw [h4] at HC;clear h4;by_cases hu:x.want.hold.toList=[]∧¬ x.until_=0
       ·obtain ⟨hh,u0⟩:=hu
        have HD:Hid (D=false):=by have:=HC.out;show _=_;simpa [hh,u0] using this
        go_wp2_with fail;go_ret;exact ⟨Ac HD.out.symm,hB1⟩
       have HD:Hid (D=(!alB x.state || lsB x c)):=by
        have:=HC.out;rw [show (!(x.want.hold.toList == []) || decide (x.until_=0))=true from by by_cases e:x.want.hold.toList=[] <;> by_cases e2:x.until_=0 <;> simp [e,e2] at hu ⊢] at this;show _=_
        simpa using this
       clear HC;have hcs:¬ x.want.hold.toList=[]∨(x.want.hold.toList=[]∧x.until_=0):=by
        by_cases e:x.want.hold.toList=[]
        ·exact .inr ⟨e,Classical.byContradiction fun e2=>hu ⟨e,e2⟩⟩
        ·exact .inl e
       clear hu;rcases hcs with hh | ⟨hh,u0⟩
       ·go_upto_region 5 with fail
        clear hh;go_wp2_with fail;refine (Av x _).mono ?_;rintro e w3 ⟨rfl,hb3⟩;have HX3:=qBk HX1 hb3;have hB3:=qTr hB1 hb3;clear hb3 hB1 HX1 k0 k1 k2 k3 k4 k5 k6 k7 k8 k9 k10;have k0:w3.cell? ⟨w.heap.size,0,none⟩=some (.string x.want.copy):=HX3.out.cell rfl;have k1:w3.cell? ⟨w.heap.size,1,none⟩=some (.int .i64 x.want.version):=HX3.out.cell rfl;have k2:w3.cell? ⟨w.heap.size,2,none⟩=some (.string x.want.hold):=HX3.out.cell rfl;have k3:w3.cell? ⟨w.heap.size,3,none⟩=some (.int .i64 x.want.pull):=HX3.out.cell rfl;have k4:w3.cell? ⟨w.heap.size,4,none⟩=some (.int .i64 x.want.start):=HX3.out.cell rfl;have k5:w3.cell? ⟨w.heap.size,5,none⟩=some (.int .i64 x.want.dies):=HX3.out.cell rfl;have k6:w3.cell? ⟨w.heap.size,6,none⟩=some (.int .i64 x.want.grace):=HX3.out.cell rfl;have k7:w3.cell? ⟨w.heap.size,7,none⟩=some (.int .i64 x.state):=HX3.out.cell rfl;have k8:w3.cell? ⟨w.heap.size,8,none⟩=some (.int .i64 x.left):=HX3.out.cell rfl;have k9:w3.cell? ⟨w.heap.size,9,none⟩=some (.int .i64 x.falls):=HX3.out.cell rfl;have k10:w3.cell? ⟨w.heap.size,10,none⟩=some (.int .i64 x.until_):=HX3.out.cell rfl
        cases h5:alB x.state with
        | false =>
         rw [h5] at HD;go_wp2_with fail;go_ret;exact ⟨Ac (by rw [HD.out];simp),hB3⟩
        | true =>
         rw [h5] at HD;clear h5;go_wp2_with fail;refine (Df x c _).mono ?_;rintro e w4 ⟨rfl,hb4⟩;have hB4:=qTr hB3 hb4;clear hb4 hB3 HX3;generalize lsB x c=E at *;go_wp2_with fail;go_ret;exact ⟨Ac (by rw [HD.out];simp),hB4⟩
       ·go_upto_region 5 with fail
        clear hh u0;go_wp2_with fail;refine (Av x _).mono ?_;rintro e w3 ⟨rfl,hb3⟩;have HX3:=qBk HX1 hb3;have hB3:=qTr hB1 hb3;clear hb3 hB1 HX1 k0 k1 k2 k3 k4 k5 k6 k7 k8 k9 k10;have k0:w3.cell? ⟨w.heap.size,0,none⟩=some (.string x.want.copy):=HX3.out.cell rfl;have k1:w3.cell? ⟨w.heap.size,1,none⟩=some (.int .i64 x.want.version):=HX3.out.cell rfl;have k2:w3.cell? ⟨w.heap.size,2,none⟩=some (.string x.want.hold):=HX3.out.cell rfl;have k3:w3.cell? ⟨w.heap.size,3,none⟩=some (.int .i64 x.want.pull):=HX3.out.cell rfl;have k4:w3.cell? ⟨w.heap.size,4,none⟩=some (.int .i64 x.want.start):=HX3.out.cell rfl;have k5:w3.cell? ⟨w.heap.size,5,none⟩=some (.int .i64 x.want.dies):=HX3.out.cell rfl;have k6:w3.cell? ⟨w.heap.size,6,none⟩=some (.int .i64 x.want.grace):=HX3.out.cell rfl;have k7:w3.cell? ⟨w.heap.size,7,none⟩=some (.int .i64 x.state):=HX3.out.cell rfl;have k8:w3.cell? ⟨w.heap.size,8,none⟩=some (.int .i64 x.left):=HX3.out.cell rfl;have k9:w3.cell? ⟨w.heap.size,9,none⟩=some (.int .i64 x.falls):=HX3.out.cell rfl;have k10:w3.cell? ⟨w.heap.size,10,none⟩=some (.int .i64 x.until_):=HX3.out.cell rfl
        cases h5:alB x.state with
        | false =>
         rw [h5] at HD;go_wp2_with fail;go_ret;exact ⟨Ac (by rw [HD.out];simp),hB3⟩
        | true =>
         rw [h5] at HD;clear h5;go_wp2_with fail;refine (Df x c _).mono ?_;rintro e w4 ⟨rfl,hb4⟩;have hB4:=qTr hB3 hb4;clear hb4 hB3 HX3;generalize lsB x c=E at *;go_wp2_with fail;go_ret;exact ⟨Ac (by rw [HD.out];simp),hB4⟩
end Go.Proofs.YtkiloaiffopllaaGreat
