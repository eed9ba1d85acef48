import Derived.Test.YtihnjndnkgnmaaaGreatJ45
set_option maxHeartbeats 2000000
namespace Go.Proofs.YtihnjndnkgnmaaaGreat
set_option maxRecDepth 100000
open Go.RowKit
theorem Ay {T T1:Nat} (h:T1=T+1):(T:Int)+1=((T1:Nat):Int):=by omega
theorem Tf (b o n cap k:Nat) (w:World) (hE:EnW w b o (n)) (hb0:b<w.heap.size) (h0:0<k) (h1:k+n≤1073741824) :
  Calls Tryz.prog 76 #[.slice (some ⟨b,o,none⟩) n cap,.int .i64 k] w fun e w'=>e=.returned (.int .i64 ((k+n:Nat):Int))∧Wr (LS (some ⟨b,o,none⟩) n) w w'∧Mk w' (LS (some ⟨b,o,none⟩) n) k:=by
 replace hE:=iH hE;have hbl:=hb0;go_enter Tryz.func76,Tryz.ntmps76;go_wp2_with fail;go_loopw [1,5] (fun v i wr=>∃ j:Nat,j≤n∧i=.int .i64 j∧v=.int .i64 ((k+j:Nat):Int)∧Hid (Wr (LS (some ⟨b,o,none⟩) j) w wr)∧Hid (Mk wr (LS (some ⟨b,o,none⟩) j) k)) (fun _ i _=>n - (intOf i).toNat)
 case atStart=>exact ⟨0,zL,rfl,by simp,by rw [Js];exact Wr.refl _,by rw [Js];exact Mk.nil _ _⟩
 case round =>
  obtain ⟨j,hj,rfl,rfl,hW,hM⟩:=hrel;by_cases hlt:j<n
  ·have i0:(0:Int)≤(j:Int):=by omega
   have i1:(j:Int)<(n:Int):=by omega
   obtain ⟨T0,hT0⟩:∃ T:Nat,T=k+j:=⟨_,rfl⟩;rw [← hT0];have hTb:0<T0∧T0+1≤1073741824:=by omega
   have HT0:=iH hT0;clear hT0;go_wp2_with fail;refine (Aw T0 _ (by omega) (by omega)).mono ?_;rintro e wa0 ⟨rfl,hb⟩;replace hW:=iH (hW.out.below hb);replace hM:=iH (hM.out.below hb);clear hb;obtain ⟨u0,d0⟩:∃ u,wa0.cell? ⟨b,o+j,none⟩=some u:=(hE.out.wr hW.out hbl).1 (j) (by omega);have g0:wa0.frozen? ⟨b,o+j,none⟩=false:=(hE.out.wr hW.out hbl).2 _;have hM0:Mk (wa0.setCell ⟨b,o+j,none⟩ (.string (Bp T0))) (LS (some ⟨b,o,none⟩) j++[(b,o+j,0)]) k:=hM.out.set (fun c' hm=>by have:=eC hm;omega) d0 (by rw [Yn];show _=mvK 0 _;rw [← HT0.out];rfl);have hW0:=iH (hW.out.set b (o+j) 0 (.string (Bp T0)));have HMf:Hid (Mk (wa0.setCell ⟨b,o+j,none⟩ (.string (Bp T0))) (LS (some ⟨b,o,none⟩) (j+1)) k):=by have h:=hM0;show Mk _ _ _;rw [aF];exact h
   have HWf:Hid (Wr (LS (some ⟨b,o,none⟩) (j+1)) w (wa0.setCell ⟨b,o+j,none⟩ (.string (Bp T0)))):=by have h:=hW0.out;show Wr _ _ _;rw [aF];exact h
   clear hM hW hM0 hW0;go_wp2_with fail;go_roundw
   case rel=>exact ⟨j+1,by omega,by go_num,by have e0:=HT0.out;congr 1;omega,HWf,HMf⟩
   case measure=>simp [intOf];omega
  ·have hje:j=n:=by omega
   subst hje;go_wp2_with fail;go_ret;exact ⟨rfl,hW.out,hM.out⟩
def LLk (a:OA) (n:Nat):List (Nat×Nat×Nat):=match a with
 | some ad=>(List.range n).flatMap (fun t=>[(ad.block,ad.off+t*2,0),(ad.block,ad.off+t*2+1,1)])
 | none=>[]
theorem Gq (a:OA):LLk a 0=[]:=by cases a <;> rfl
theorem Jf (b o n:Nat):LLk (some ⟨b,o,none⟩) (n+1)=LLk (some ⟨b,o,none⟩) n++[(b,o+n*2,0),(b,o+n*2+1,1)]:=by
 show List.flatMap _ _=List.flatMap _ _++_
 rw [List.range_succ,List.flatMap_append];simp
theorem Fm (b o:Nat):∀ n,(LLk (some ⟨b,o,none⟩) n).length=n*2
 | 0=>rfl
 | n+1=>by
  rw [Jf,List.length_append,Fm b o n];simp only [List.length_cons,List.length_nil];omega
theorem Od {b o x p c:Nat}:∀ {n:Nat},(x,p,c)∈LLk (some ⟨b,o,none⟩) n→x=b∧o≤p∧p<o+n*2
 | 0,h=>by rw [Gq] at h;cases h
 | n+1,h=>by
  rw [Jf,List.mem_append] at h;rcases h with h | h
  ·have:=Od h
   omega
  ·simp at h
   omega
theorem Sw (b o n cap k:Nat) (w:World) (hE:EnW w b o (n*2)) (hb0:b<w.heap.size) (h0:0<k) (h1:k+n*2≤1073741824) :
  Calls Tryz.prog 77 #[.slice (some ⟨b,o,none⟩) n cap,.int .i64 k] w fun e w'=>e=.returned (.int .i64 ((k+n*2:Nat):Int))∧Wr (LLk (some ⟨b,o,none⟩) n) w w'∧Mk w' (LLk (some ⟨b,o,none⟩) n) k:=by
 replace hE:=iH hE;have hbl:=hb0;go_enter Tryz.func77,Tryz.ntmps77;go_wp2_with fail;go_loopw [1,5] (fun v i wr=>∃ j:Nat,j≤n∧i=.int .i64 j∧v=.int .i64 ((k+j*2:Nat):Int)∧Hid (Wr (LLk (some ⟨b,o,none⟩) j) w wr)∧Hid (Mk wr (LLk (some ⟨b,o,none⟩) j) k)) (fun _ i _=>n - (intOf i).toNat)
 case atStart=>exact ⟨0,zL,rfl,by simp,by rw [Gq];exact Wr.refl _,by rw [Gq];exact Mk.nil _ _⟩
 case round =>
  obtain ⟨j,hj,rfl,rfl,hW,hM⟩:=hrel;by_cases hlt:j<n
  ·have i0:(0:Int)≤(j:Int):=by omega
   have i1:(j:Int)<(n:Int):=by omega
   obtain ⟨T0,hT0⟩:∃ T:Nat,T=k+j*2:=⟨_,rfl⟩;rw [← hT0];have hTb:0<T0∧T0+2≤1073741824:=by omega
   have HT0:=iH hT0;clear hT0;go_wp2_with fail;refine (Aw T0 _ (by omega) (by omega)).mono ?_;rintro e wa0 ⟨rfl,hb⟩;replace hW:=iH (hW.out.below hb);replace hM:=iH (hM.out.below hb);clear hb;obtain ⟨u0,d0⟩:∃ u,wa0.cell? ⟨b,o+j*2,none⟩=some u:=(hE.out.wr hW.out hbl).1 (j*2) (by omega);have g0:wa0.frozen? ⟨b,o+j*2,none⟩=false:=(hE.out.wr hW.out hbl).2 _;have hM0:Mk (wa0.setCell ⟨b,o+j*2,none⟩ (.string (Bp T0))) (LLk (some ⟨b,o,none⟩) j++[(b,o+j*2,0)]) k:=hM.out.set (fun c' hm=>by have:=Od hm;omega) d0 (by rw [Fm];show _=mvK 0 _;rw [← HT0.out];rfl);have hW0:=iH (hW.out.set b (o+j*2) 0 (.string (Bp T0)));go_upto_region 5 with fail;clear d0 g0 hM hW;have hM:=iH hM0;have hW:=hW0;clear hM0 hW0;generalize wa0.setCell ⟨b,o+j*2,none⟩ (.string (Bp T0))=wb0 at *;go_upto_region 6 with fail;obtain ⟨T1,hT1⟩:∃ T:Nat,T=T0+1:=⟨_,rfl⟩;rw [Ay hT1];have HT1:=iH hT1;have hTb1:0<T1∧T1+1≤1073741824:=by omega
   clear hT1;obtain ⟨u1,d1⟩:∃ u,wb0.cell? ⟨b,o+j*2+1,none⟩=some u:=by have h:=(hE.out.wr hW.out hbl).1 (j*2+1) (by omega);rwa [← Nat.add_assoc] at h
   have g1:wb0.frozen? ⟨b,o+j*2+1,none⟩=false:=(hE.out.wr hW.out hbl).2 _;have hM1:Mk (wb0.setCell ⟨b,o+j*2+1,none⟩ (.int .i64 ((T1:Nat):Int))) ((LLk (some ⟨b,o,none⟩) j++[(b,o+j*2,0)])++[(b,o+j*2+1,1)]) k:=hM.out.set (fun c' hm=>by simp only [List.mem_append,List.mem_cons,List.not_mem_nil,or_false] at hm;rcases hm with hm | hm <;> first | (have:=Od hm;omega) | (simp at hm;done) | (simp at hm;omega)) d1 (by rw [List.length_append,Fm];show _=mvK 1 (k+(j*2+1));rw [show k+(j*2+1)=T1 by have e0:=HT0.out;have e1:=HT1.out;omega];rfl);have hW1:=iH (hW.out.set b (o+j*2+1) 1 (.int .i64 ((T1:Nat):Int)));have HMf:Hid (Mk (wb0.setCell ⟨b,o+j*2+1,none⟩ (.int .i64 ((T1:Nat):Int))) (LLk (some ⟨b,o,none⟩) (j+1)) k):=by have h:=hM1;show Mk _ _ _;rw [Jf];simpa using h
   have HWf:Hid (Wr (LLk (some ⟨b,o,none⟩) (j+1)) w (wb0.setCell ⟨b,o+j*2+1,none⟩ (.int .i64 ((T1:Nat):Int)))):=by have h:=hW1.out;show Wr _ _ _;rw [Jf];simpa using h
   clear hM hW hM1 hW1;go_wp2_with fail;go_roundw
   case rel=>exact ⟨j+1,by omega,by go_num,by have e0:=HT0.out;have e1:=HT1.out;congr 1;omega,HWf,HMf⟩
   case measure=>simp [intOf];omega
  ·have hje:j=n:=by omega
   subst hje;go_wp2_with fail;go_ret;exact ⟨rfl,hW.out,hM.out⟩
def LSv (a:OA) (n:Nat):List (Nat×Nat×Nat):=match a with
 | some ad=>(List.range n).flatMap (fun t=>[(ad.block,ad.off+t*2,0),(ad.block,ad.off+t*2+1,1)])
 | none=>[]
theorem Po (a:OA):LSv a 0=[]:=by cases a <;> rfl
theorem Iy (b o n:Nat):LSv (some ⟨b,o,none⟩) (n+1)=LSv (some ⟨b,o,none⟩) n++[(b,o+n*2,0),(b,o+n*2+1,1)]:=by
 show List.flatMap _ _=List.flatMap _ _++_
 rw [List.range_succ,List.flatMap_append];simp
theorem Gw (b o:Nat):∀ n,(LSv (some ⟨b,o,none⟩) n).length=n*2
 | 0=>rfl
 | n+1=>by
  rw [Iy,List.length_append,Gw b o n];simp only [List.length_cons,List.length_nil];omega
theorem Nv {b o x p c:Nat}:∀ {n:Nat},(x,p,c)∈LSv (some ⟨b,o,none⟩) n→x=b∧o≤p∧p<o+n*2
 | 0,h=>by rw [Po] at h;cases h
 | n+1,h=>by
  rw [Iy,List.mem_append] at h;rcases h with h | h
  ·have:=Nv h
   omega
  ·simp at h
   omega
theorem Su (b o n cap k:Nat) (w:World) (hE:EnW w b o (n*2)) (hb0:b<w.heap.size) (h0:0<k) (h1:k+n*2≤1073741824) :
  Calls Tryz.prog 37 #[.slice (some ⟨b,o,none⟩) n cap,.int .i64 k] w fun e w'=>e=.returned (.int .i64 ((k+n*2:Nat):Int))∧Wr (LSv (some ⟨b,o,none⟩) n) w w'∧Mk w' (LSv (some ⟨b,o,none⟩) n) k:=by
 replace hE:=iH hE;have hbl:=hb0;go_enter Tryz.func37,Tryz.ntmps37;go_wp2_with fail;go_loopw [1,5] (fun v i wr=>∃ j:Nat,j≤n∧i=.int .i64 j∧v=.int .i64 ((k+j*2:Nat):Int)∧Hid (Wr (LSv (some ⟨b,o,none⟩) j) w wr)∧Hid (Mk wr (LSv (some ⟨b,o,none⟩) j) k)) (fun _ i _=>n - (intOf i).toNat)
 case atStart=>exact ⟨0,zL,rfl,by simp,by rw [Po];exact Wr.refl _,by rw [Po];exact Mk.nil _ _⟩
 case round =>
  obtain ⟨j,hj,rfl,rfl,hW,hM⟩:=hrel;by_cases hlt:j<n
  ·have i0:(0:Int)≤(j:Int):=by omega
   have i1:(j:Int)<(n:Int):=by omega
   obtain ⟨T0,hT0⟩:∃ T:Nat,T=k+j*2:=⟨_,rfl⟩;rw [← hT0];have hTb:0<T0∧T0+2≤1073741824:=by omega
   have HT0:=iH hT0;clear hT0;go_wp2_with fail;refine (Aw T0 _ (by omega) (by omega)).mono ?_;rintro e wa0 ⟨rfl,hb⟩;replace hW:=iH (hW.out.below hb);replace hM:=iH (hM.out.below hb);clear hb;obtain ⟨u0,d0⟩:∃ u,wa0.cell? ⟨b,o+j*2,none⟩=some u:=(hE.out.wr hW.out hbl).1 (j*2) (by omega);have g0:wa0.frozen? ⟨b,o+j*2,none⟩=false:=(hE.out.wr hW.out hbl).2 _;have hM0:Mk (wa0.setCell ⟨b,o+j*2,none⟩ (.string (Bp T0))) (LSv (some ⟨b,o,none⟩) j++[(b,o+j*2,0)]) k:=hM.out.set (fun c' hm=>by have:=Nv hm;omega) d0 (by rw [Gw];show _=mvK 0 _;rw [← HT0.out];rfl);have hW0:=iH (hW.out.set b (o+j*2) 0 (.string (Bp T0)));go_upto_region 5 with fail;clear d0 g0 hM hW;have hM:=iH hM0;have hW:=hW0;clear hM0 hW0;generalize wa0.setCell ⟨b,o+j*2,none⟩ (.string (Bp T0))=wb0 at *;go_upto_region 6 with fail;obtain ⟨T1,hT1⟩:∃ T:Nat,T=T0+1:=⟨_,rfl⟩;rw [Ay hT1];have HT1:=iH hT1;have hTb1:0<T1∧T1+1≤1073741824:=by omega
   clear hT1;obtain ⟨u1,d1⟩:∃ u,wb0.cell? ⟨b,o+j*2+1,none⟩=some u:=by have h:=(hE.out.wr hW.out hbl).1 (j*2+1) (by omega);rwa [← Nat.add_assoc] at h
   have g1:wb0.frozen? ⟨b,o+j*2+1,none⟩=false:=(hE.out.wr hW.out hbl).2 _;have hM1:Mk (wb0.setCell ⟨b,o+j*2+1,none⟩ (.int .i64 ((T1:Nat):Int))) ((LSv (some ⟨b,o,none⟩) j++[(b,o+j*2,0)])++[(b,o+j*2+1,1)]) k:=hM.out.set (fun c' hm=>by simp only [List.mem_append,List.mem_cons,List.not_mem_nil,or_false] at hm;rcases hm with hm | hm <;> first | (have:=Nv hm;omega) | (simp at hm;done) | (simp at hm;omega)) d1 (by rw [List.length_append,Gw];show _=mvK 1 (k+(j*2+1));rw [show k+(j*2+1)=T1 by have e0:=HT0.out;have e1:=HT1.out;omega];rfl);have hW1:=iH (hW.out.set b (o+j*2+1) 1 (.int .i64 ((T1:Nat):Int)));have HMf:Hid (Mk (wb0.setCell ⟨b,o+j*2+1,none⟩ (.int .i64 ((T1:Nat):Int))) (LSv (some ⟨b,o,none⟩) (j+1)) k):=by have h:=hM1;show Mk _ _ _;rw [Iy];simpa using h
   have HWf:Hid (Wr (LSv (some ⟨b,o,none⟩) (j+1)) w (wb0.setCell ⟨b,o+j*2+1,none⟩ (.int .i64 ((T1:Nat):Int)))):=by have h:=hW1.out;show Wr _ _ _;rw [Iy];simpa using h
   clear hM hW hM1 hW1;go_wp2_with fail;go_roundw
   case rel=>exact ⟨j+1,by omega,by go_num,by have e0:=HT0.out;have e1:=HT1.out;congr 1;omega,HWf,HMf⟩
   case measure=>simp [intOf];omega
  ·have hje:j=n:=by omega
   subst hje;go_wp2_with fail;go_ret;exact ⟨rfl,hW.out,hM.out⟩
theorem lN {b o n j:Nat} (h:j<n):(LS (some ⟨b,o,none⟩) n)[j]?=some (b,o+j,0):=by
 show (List.map _ (List.range n))[j]?=_
 rw [List.getElem?_map,List.getElem?_range h];rfl
theorem Sx (b o n cap k:Nat) (w:World) (hM:Mk w (LS (some ⟨b,o,none⟩) n) k) (h0:0<k) (h1:k+n≤1073741824) :
  Calls Tryz.prog 78 #[.slice (some ⟨b,o,none⟩) n cap,.int .i64 k] w fun e w'=>e=.returned (.int .i64 ((k+n:Nat):Int))∧Below w.heap.size w w' :=
 Tk (some ⟨b,o,none⟩) n cap k w (.inr ⟨b,o,rfl,fun j hj=>hM j b (o+j) 0 (lN hj)⟩) h0 h1
theorem eY {b o:Nat}:∀ {n j:Nat},j<n→(LLk (some ⟨b,o,none⟩) n)[j*2+0]?=some (b,o+j*2,0)∧(LLk (some ⟨b,o,none⟩) n)[j*2+1]?=some (b,o+j*2+1,1)
 | 0,_,h=>absurd h (Nat.not_lt_zero _)
 | n+1,j,h=>by
  rw [Jf];by_cases e:j=n
  ·subst e
   refine ⟨by rw [List.getElem?_append_right (by rw [Fm];omega),Fm,Nat.add_sub_cancel_left];rfl,by rw [List.getElem?_append_right (by rw [Fm];omega),Fm,Nat.add_sub_cancel_left];rfl⟩
  ·have hj:j<n:=by omega
   have hl:=Fm b o n;obtain ⟨p0,p1⟩:=eY (b:=b) (o:=o) hj;refine ⟨by rw [List.getElem?_append_left (by omega)];exact p0,by rw [List.getElem?_append_left (by omega)];exact p1⟩
theorem Tg (b o n cap k:Nat) (w:World) (hM:Mk w (LLk (some ⟨b,o,none⟩) n) k) (h0:0<k) (h1:k+n*2≤1073741824) :
  Calls Tryz.prog 79 #[.slice (some ⟨b,o,none⟩) n cap,.int .i64 k] w (Rt (.int .i64 ((k+n*2:Nat):Int)) w):=by
 have HM:=iH hM;clear hM;go_enter Tryz.func79,Tryz.ntmps79;go_wp2_with fail;go_loopw [1,5] (fun v i wr=>∃ j:Nat,j≤n∧i=.int .i64 j∧v=.int .i64 ((k+j*2:Nat):Int)∧Hid (Below w.heap.size w wr)) (fun _ i _=>n - (intOf i).toNat)
 case atStart=>exact ⟨0,zL,rfl,by simp,Below.refl _ _⟩
 case round =>
  obtain ⟨j,hj,rfl,rfl,hB⟩:=hrel;by_cases hlt:j<n
  ·have i0:(0:Int)≤(j:Int):=by omega
   have i1:(j:Int)<(n:Int):=by omega
   obtain ⟨p0,p1⟩:=eY (b:=b) (o:=o) hlt;have C0:=iH ((hB.out.cell (p:=⟨b,o+j*2,none⟩) (block_lt_of_cell (HM _ b _ _ p0))).trans (HM _ b _ _ p0));have C1:=iH ((hB.out.cell (p:=⟨b,o+j*2+1,none⟩) (block_lt_of_cell (HM _ b _ _ p1))).trans (HM _ b _ _ p1));clear p0 p1;obtain ⟨T0,hT0⟩:∃ T:Nat,T=k+j*2:=⟨_,rfl⟩;rw [← hT0];have hTb:0<T0∧T0+2≤1073741824:=by omega
   have D0:Hid (wr.cell? ⟨b,o+j*2,none⟩=some (mvK 0 (T0+0))):=by show _=_;rw [C0.out];show some (mvK 0 (k+(j*2+0)))=_;rw [show k+(j*2+0)=T0+0 by omega]
   have D1:Hid (wr.cell? ⟨b,o+j*2+1,none⟩=some (mvK 1 (T0+1))):=by show _=_;rw [C1.out];show some (mvK 1 (k+(j*2+1)))=_;rw [show k+(j*2+1)=T0+1 by omega]
   have HT0:=iH hT0;clear hT0 C0 C1;have c0:wr.cell? ⟨b,o+j*2,none⟩=some (mvK 0 T0):=by have h:=D0.out;rwa [show T0+0=T0 by rfl] at h
   go_upto_region 4 with fail;refine wp_region_held_drew (S:=fun wy=>wy.cell? ⟨b,o+j*2,none⟩=some (.string (Bp T0))) (by kernel_rfl) c0 (fun hS=>?_);refine tz 0 12 (.slice (some ⟨b,o,none⟩) n cap) rfl hS ?_;simp only [pX];refine tz 1 13 (.int .i64 (j:Int)) rfl hS ?_;simp only [pX];refine ty 2 ⟨some 14,_,_,_,_,none⟩ (.pointer (some ⟨b,o+j*2,none⟩)) rfl (by rfl) ?_ hS ?_
   ·intro wy hy
    clear hy
    first | (go_simp;done) | (go_simp;intro hh;omega) | (go_simp;omega)
   simp only [pX];refine tz 3 15 (.pointer (some ⟨b,o+j*2,none⟩)) rfl hS ?_;simp only [pX];refine ty 4 ⟨some 16,_,_,_,_,none⟩ (.string (Bp T0)) rfl (by rfl) ?_ hS ?_
   ·intro wy hy
    have h9:=hy;clear hy;go_simp
   simp only [pX];refine tz 5 17 (.int .i64 ((T0:Nat):Int)) rfl hS ?_;simp only [pX];refine rd1 6 ⟨some 18,_,_,_,_,none⟩ rfl (fun K hK=>?_);go_simp;refine (Aw T0 _ (by omega) (by omega)).mono ?_;rintro e wa0 ⟨rfl,hb1⟩;have hd:Below wr.heap.size wr wa0:=(Below.refl _ wr).drew.trans hb1;replace hB:=qT hB hd;replace D1:=iH ((hd.cell (p:=⟨b,o+j*2+1,none⟩) (block_lt_of_cell D1)).trans D1);refine hK.out _ _ ((hd.cell (p:=⟨b,o+j*2,none⟩) (block_lt_of_cell c0)).trans c0) (fun hS=>?_);clear hK K hb1 hd c0 D0;refine tz 7 19 (.bool false) rfl hS ?_;simp only [pX];refine td ?_;clear hS;go_upto_region 7 with fail;obtain ⟨T1,hT1⟩:∃ T:Nat,T=T0+1:=⟨_,rfl⟩;rw [Ay hT1];have HT1:=iH hT1;have hTb1:0<T1∧T1+1≤1073741824:=by omega
   clear hT1;have c1:wa0.cell? ⟨b,o+j*2+1,none⟩=some (mvK 1 T1):=by have h:=D1.out;rwa [show T0+1=T1 by have e1:=HT1.out;omega] at h
   replace c1:wa0.cell? ⟨b,o+j*2+1,none⟩=some (.int .i64 ((T1:Nat):Int)):=c1;go_wp2_with fail;go_roundw
   case rel=>exact ⟨j+1,by omega,by go_num,by have e0:=HT0.out;have e1:=HT1.out;congr 1;omega,hB⟩
   case measure=>simp [intOf];omega
  ·have hje:j=n:=by omega
   subst hje;go_wp2_with fail;go_ret;exact ⟨rfl,hB.out⟩
theorem gD {b o:Nat}:∀ {n j:Nat},j<n→(LSv (some ⟨b,o,none⟩) n)[j*2+0]?=some (b,o+j*2,0)∧(LSv (some ⟨b,o,none⟩) n)[j*2+1]?=some (b,o+j*2+1,1)
 | 0,_,h=>absurd h (Nat.not_lt_zero _)
 | n+1,j,h=>by
  rw [Iy];by_cases e:j=n
  ·subst e
   refine ⟨by rw [List.getElem?_append_right (by rw [Gw];omega),Gw,Nat.add_sub_cancel_left];rfl,by rw [List.getElem?_append_right (by rw [Gw];omega),Gw,Nat.add_sub_cancel_left];rfl⟩
  ·have hj:j<n:=by omega
   have hl:=Gw b o n;obtain ⟨p0,p1⟩:=gD (b:=b) (o:=o) hj;refine ⟨by rw [List.getElem?_append_left (by omega)];exact p0,by rw [List.getElem?_append_left (by omega)];exact p1⟩
theorem Tt (b o n cap k:Nat) (w:World) (hM:Mk w (LSv (some ⟨b,o,none⟩) n) k) (h0:0<k) (h1:k+n*2≤1073741824) :
  Calls Tryz.prog 42 #[.slice (some ⟨b,o,none⟩) n cap,.int .i64 k] w (Rt (.int .i64 ((k+n*2:Nat):Int)) w):=by
 have HM:=iH hM;clear hM;go_enter Tryz.func42,Tryz.ntmps42;go_wp2_with fail;go_loopw [1,5] (fun v i wr=>∃ j:Nat,j≤n∧i=.int .i64 j∧v=.int .i64 ((k+j*2:Nat):Int)∧Hid (Below w.heap.size w wr)) (fun _ i _=>n - (intOf i).toNat)
 case atStart=>exact ⟨0,zL,rfl,by simp,Below.refl _ _⟩
 case round =>
  obtain ⟨j,hj,rfl,rfl,hB⟩:=hrel;by_cases hlt:j<n
  ·have i0:(0:Int)≤(j:Int):=by omega
   have i1:(j:Int)<(n:Int):=by omega
   obtain ⟨p0,p1⟩:=gD (b:=b) (o:=o) hlt;have C0:=iH ((hB.out.cell (p:=⟨b,o+j*2,none⟩) (block_lt_of_cell (HM _ b _ _ p0))).trans (HM _ b _ _ p0));have C1:=iH ((hB.out.cell (p:=⟨b,o+j*2+1,none⟩) (block_lt_of_cell (HM _ b _ _ p1))).trans (HM _ b _ _ p1));clear p0 p1;obtain ⟨T0,hT0⟩:∃ T:Nat,T=k+j*2:=⟨_,rfl⟩;rw [← hT0];have hTb:0<T0∧T0+2≤1073741824:=by omega
   have D0:Hid (wr.cell? ⟨b,o+j*2,none⟩=some (mvK 0 (T0+0))):=by show _=_;rw [C0.out];show some (mvK 0 (k+(j*2+0)))=_;rw [show k+(j*2+0)=T0+0 by omega]
   have D1:Hid (wr.cell? ⟨b,o+j*2+1,none⟩=some (mvK 1 (T0+1))):=by show _=_;rw [C1.out];show some (mvK 1 (k+(j*2+1)))=_;rw [show k+(j*2+1)=T0+1 by omega]
   have HT0:=iH hT0;clear hT0 C0 C1;have c0:wr.cell? ⟨b,o+j*2,none⟩=some (mvK 0 T0):=by have h:=D0.out;rwa [show T0+0=T0 by rfl] at h
   go_upto_region 4 with fail;refine wp_region_held_drew (S:=fun wy=>wy.cell? ⟨b,o+j*2,none⟩=some (.string (Bp T0))) (by kernel_rfl) c0 (fun hS=>?_);refine tz 0 12 (.slice (some ⟨b,o,none⟩) n cap) rfl hS ?_;simp only [pX];refine tz 1 13 (.int .i64 (j:Int)) rfl hS ?_;simp only [pX];refine ty 2 ⟨some 14,_,_,_,_,none⟩ (.pointer (some ⟨b,o+j*2,none⟩)) rfl (by rfl) ?_ hS ?_
   ·intro wy hy
    clear hy
    first | (go_simp;done) | (go_simp;intro hh;omega) | (go_simp;omega)
   simp only [pX];refine tz 3 15 (.pointer (some ⟨b,o+j*2,none⟩)) rfl hS ?_;simp only [pX];refine ty 4 ⟨some 16,_,_,_,_,none⟩ (.string (Bp T0)) rfl (by rfl) ?_ hS ?_
   ·intro wy hy
    have h9:=hy;clear hy;go_simp
   simp only [pX];refine tz 5 17 (.int .i64 ((T0:Nat):Int)) rfl hS ?_;simp only [pX];refine rd1 6 ⟨some 18,_,_,_,_,none⟩ rfl (fun K hK=>?_);go_simp;refine (Aw T0 _ (by omega) (by omega)).mono ?_;rintro e wa0 ⟨rfl,hb1⟩;have hd:Below wr.heap.size wr wa0:=(Below.refl _ wr).drew.trans hb1;replace hB:=qT hB hd;replace D1:=iH ((hd.cell (p:=⟨b,o+j*2+1,none⟩) (block_lt_of_cell D1)).trans D1);refine hK.out _ _ ((hd.cell (p:=⟨b,o+j*2,none⟩) (block_lt_of_cell c0)).trans c0) (fun hS=>?_);clear hK K hb1 hd c0 D0;refine tz 7 19 (.bool false) rfl hS ?_;simp only [pX];refine td ?_;clear hS;go_upto_region 7 with fail;obtain ⟨T1,hT1⟩:∃ T:Nat,T=T0+1:=⟨_,rfl⟩;rw [Ay hT1];have HT1:=iH hT1;have hTb1:0<T1∧T1+1≤1073741824:=by omega
   clear hT1;have c1:wa0.cell? ⟨b,o+j*2+1,none⟩=some (mvK 1 T1):=by have h:=D1.out;rwa [show T0+1=T1 by have e1:=HT1.out;omega] at h
   replace c1:wa0.cell? ⟨b,o+j*2+1,none⟩=some (.int .i64 ((T1:Nat):Int)):=c1;go_wp2_with fail;go_roundw
   case rel=>exact ⟨j+1,by omega,by go_num,by have e0:=HT0.out;have e1:=HT1.out;congr 1;omega,hB⟩
   case measure=>simp [intOf];omega
  ·have hje:j=n:=by omega
   subst hje;go_wp2_with fail;go_ret;exact ⟨rfl,hB.out⟩
end Go.Proofs.YtihnjndnkgnmaaaGreat
