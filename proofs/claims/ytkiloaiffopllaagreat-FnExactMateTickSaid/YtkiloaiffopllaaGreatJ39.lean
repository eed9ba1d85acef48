import Derived.Test.YtkiloaiffopllaaGreatTse
set_option maxHeartbeats 8000000
set_option maxRecDepth 100000
namespace Go.Proofs.YtkiloaiffopllaaGreat
open Go.RowKit
theorem cB {α:Type} {xs:List α} {k:Nat} {x:α} (hx:xs[k]?=some x):xs=xs.take k++x::xs.drop (k+1):=by
 have hl:=Ah hx;rw [gE hl] at hx;have h9:xs[k]=x:=Option.some.inj hx;rw [← h9,← List.drop_eq_getElem_cons hl,List.take_append_drop]
theorem aP {α:Type} {p:α→Bool} {xs:List α} {k:Nat} {x:α} (hx:xs[k]?=some x) (hn:(xs.take k).find? p=none) (hp:p x=true):xs.find? p=some x:=by
 have h9:(xs.take k++x::xs.drop (k+1)).find? p=some x:=by
  rw [List.find?_append,hn,List.find?_cons,hp];rfl
 rw [← cB hx] at h9;exact h9
def WantR (xs:List Wnt) (s:BA) (u:Wnt) (wt:Bool):Prop:=(wt=true∧xs.find? (fun v=>decide (v.copy=s))=some u)∨(wt=false∧xs.find? (fun v=>decide (v.copy=s))=none∧u=⟨⟨#[]⟩,0,⟨#[]⟩,0,0,0,0⟩)
theorem WantR.so {z:Mte} {x:Rn} {u:Wnt} {wt:Bool} (h:WantR z.wants x.want.copy u wt):(wt && eqW u x.want)=soW z x:=by
 unfold soW;rcases h with ⟨rfl,h⟩ | ⟨rfl,h,_⟩
 ·rw [h];simp
 ·rw [h];rfl
theorem Gg (s:BA) (xs:List Wnt) (a:OA) (cap lo:Nat) (w:World) (hin:SliceC WntC 7 lo w a xs) (hsm:xs.length≤1048576) :
  Calls Tryz.prog 58 #[.slice a xs.length cap,.string s] w fun e w'=>∃ (u:Wnt) (wt:Bool),WantR xs s u wt∧e=.returned (.tuple #[.agg (wwA u),.bool wt])∧Below w.heap.size w w':=by
 have HI:=iH hin;have HZ0:=iH (Blk.alloc w WwA 86);have hB0:=(Below.refl _ w).alloc nL (Obj.cells WwA 86);clear hin;go_enter Tryz.func58,Tryz.ntmps58;go_upto_region 2 with fail;generalize w.alloc (Obj.cells WwA 86)=w0 at *;go_loopw [6] (fun i wr=>∃ k:Nat,k≤xs.length∧i=.int .i64 k∧Hid ((xs.take k).find? (fun v=>decide (v.copy=s))=none)∧Hid (Blk w.heap.size WwA 86 wr)∧Below w.heap.size w wr) (fun i _=>xs.length - (intOf i).toNat)
 case atStart=>exact ⟨0,zL,rfl,rfl,HZ0,hB0⟩
 case round =>
  clear HZ0 hB0;obtain ⟨k,hk,rfl,HN,HZ,hB⟩:=hrel;by_cases hlt:k<xs.length
  case neg =>
   have HF:Hid (xs.find? (fun v=>decide (v.copy=s))=none):=by show _=_;have h9:=HN.out;rw [show k=xs.length by omega,List.take_length] at h9;exact h9
   have HTS:=iH HZ.out.there;obtain ⟨wf,HE⟩:∃ wf,Hid (wf=wr.setCells w.heap.size 0 WwL):=⟨_,rfl⟩;have HRf:Hid (wf.rangeAt w.heap.size 0 WwL):=by show World.rangeAt _ _ _ _;rw [HE.out];exact World.rangeAt_setCells_same _ _ _ _ HTS
   have hBf:Below w.heap.size w wf:=by rw [HE.out];exact Aa nL _ _ _ hB
   clear HZ hB;go_wp2_with (refine Ab rfl 86 _ _ rfl w.heap.size 0 WwA (by first | rfl | (simp [go_sem];done)) rfl HTS Au (by simp [Value.oneCell']) wf HE ?_);exact bodyPost_ret (Ad rfl _ _ w.heap.size WwL _ rfl HRf Tryz.underlying86 rfl Au) rfl ⟨⟨⟨#[]⟩,0,⟨#[]⟩,0,0,0,0⟩,false,.inr ⟨rfl,HF,rfl⟩,rfl,hBf⟩
  obtain ⟨x,hx⟩:=gXe hlt;obtain ⟨b,o,rfl,_,hbl,hc⟩:=(HI.out.below WntC.holds hB nL).at hx;have HRA:=iH (Du hc);have q0:wr.cell? ⟨b,o+k*7,none⟩=some (.string x.copy):=by simpa using hc.1
  have HST:Hid (xs.take (k+1)=xs.take k++[x]):=by show _=_;rw [List.take_add_one,hx];rfl
  have HSX:=iH hx;clear hc hx hbl;by_cases hs:x.copy=s
  case pos =>
   have HF:Hid (xs.find? (fun v=>decide (v.copy=s))=some x):=by show _=_;exact aP HSX HN (decide_eq_true hs)
   have hs2:(x.copy.toList == s.toList)=true:=by rw [hs];simp
   clear hs;have HTS:=iH HZ.out.there;obtain ⟨wf,HE⟩:∃ wf,Hid (wf=wr.setCells w.heap.size 0 (wwL x)):=⟨_,rfl⟩;have HRf:Hid (wf.rangeAt w.heap.size 0 (wwL x)):=by show World.rangeAt _ _ _ _;rw [HE.out];exact World.rangeAt_setCells_same _ _ _ _ HTS
   have hBf:Below w.heap.size w wf:=by rw [HE.out];exact Aa nL _ _ _ hB
   clear HZ hB;go_wp2_with (first | (refine qLr Gr HRA ?_) | (refine Ab rfl 86 _ _ rfl w.heap.size 0 (wwA x) (by first | rfl | (simp [go_sem];done)) rfl HTS Au (by simp [Value.oneCell']) wf HE ?_));exact bodyPost_ret (Ad rfl _ _ w.heap.size (wwL x) _ rfl HRf Tryz.underlying86 rfl Au) rfl ⟨x,true,.inl ⟨rfl,HF⟩,rfl,hBf⟩
  have HN2:Hid ((xs.take (k+1)).find? (fun v=>decide (v.copy=s))=none):=by show _=_;rw [HST.out,List.find?_append,HN.out,List.find?_cons,decide_eq_false hs];rfl
  have hs2:(x.copy.toList == s.toList)=false:=Lg hs;clear hs HRA HST HSX HN;go_wp2_with fail;go_roundw
  case rel=>exact ⟨k+1,by omega,by go_num,HN2,HZ,hB⟩
  case measure=>simp [intOf];omega
end Go.Proofs.YtkiloaiffopllaaGreat
namespace Go.Proofs.YtkiloaiffopllaaGreat
open Go.RowKit Go.WideMaps Go.Maps
end Go.Proofs.YtkiloaiffopllaaGreat
namespace Go.Proofs.YtkiloaiffopllaaGreat
open Go.RowKit
theorem Kj {base n cap:Nat} {a:OA} {w:World} {e:TypeId} {s:Nat} {cs:List Value} (h:w.ownsRow base e s (.slice a n cap) n cs):∀ b o sp,a=some ⟨b,o,sp⟩→sp=none:=by
 intro b o sp ea;rcases h.2 with ⟨h1,_⟩ | ⟨g',cap',cur,h1,_⟩
 ·rw [ea] at h1
  cases h1
 ·have e2:a=some ⟨g',0,none⟩:=by injection h1
  rw [e2] at ea;cases ea
  rfl
theorem Sz (y:Mte) (p:Nat) (a5:OA) (c5:Nat) (o6:OA) (k6 j6:Nat) (o7:OA) (k7 j7:Nat) (o8:OA) (k8 j8:Nat) (m1:Option Nat) (m2 n2 m3 n3 m4 n4 lo:Nat) (D2 D3 D4:DataW Unit) (w:World) (hP:Blk p #[.string y.name,.bool y.up,.int .i64 y.clock,.bool y.known,.int .i64 y.seen,.slice a5 y.wants.length c5,.slice o6 k6 j6,.slice o7 k7 j7,.slice o8 k8 j8,.map m1,.map (some m2),.map (some m3),.map (some m4)] 125 w)
  (hM2:w.ownsMap Tryz.prog 9 Gs m2 n2 D2) (hM3:w.ownsMap Tryz.prog 9 Bn m3 n3 D3) (hM4:w.ownsMap Tryz.prog 9 Bn m4 n4 D4) (hn2:n2≤2097152) (hn3:n3≤2097152) (hn4:n4≤2097152)
  (hT2:TabR D2 y.runs) (hT3:TabA D3 y.asks) (hT4:TabA D4 y.gives) (hA6:Aw (y.runs.map (·.want.copy)) y.runs.length=true) (hA7:Aw (y.asks.map (·.hold)) y.asks.length=true) (hA8:Aw (y.gives.map (·.hold)) y.gives.length=true)
  (hZ6:∀ x∈y.runs,x.want.copy.size≤maxLen) (hZ7:∀ x∈y.asks,x.hold.size≤maxLen) (hZ8:∀ x∈y.gives,x.hold.size≤maxLen) (hs5:SliceC WntC 7 lo w a5 y.wants) (hp5:∀ b o s,a5=some ⟨b,o,s⟩→s=none) (hm:MSz y) :
  Calls Tryz.prog 36 #[.pointer (some ⟨p,0,none⟩)] w fun e w'=>∃ d5 r5 d6 r6 d7 r7 d8 r8,e=.returned (.agg (mmA y d5 r5 d6 r6 d7 r7 d8 r8))∧G4 y w.heap.size w'.heap.size d5 d6 d7 d8 w'∧Below w.heap.size w w':=by
 have M2:=iH hM2;have M3:=iH hM3;have M4:=iH hM4;have T2:=iH hT2;have T3:=iH hT3;have T4:=iH hT4;have A6:=iH hA6;have A7:=iH hA7;have A8:=iH hA8;have Z6:=iH hZ6;have Z7:=iH hZ7;have Z8:=iH hZ8;have S5:=iH hs5;have P5:=iH hp5;have HM:=iH hm;have hpl:p<w.heap.size:=hP.lt;have HP0:=iH hP;clear hM2 hM3 hM4 hT2 hT3 hT4 hA6 hA7 hA8 hZ6 hZ7 hZ8 hs5 hp5 hm hP;have hb1:=(Below.refl _ w).alloc nL (Obj.cells MmA 32);have HP1:=qBk HP0 hb1;have hB2:=bl2 w MmA 32 #[.string y.name,.bool y.up,.int .i64 y.clock,.bool y.known,.int .i64 y.seen,.slice a5 y.wants.length c5,.slice o6 k6 j6,.slice o7 k7 j7,.slice o8 k8 j8] 32;have HP2:Hid (Blk p #[.string y.name,.bool y.up,.int .i64 y.clock,.bool y.known,.int .i64 y.seen,.slice a5 y.wants.length c5,.slice o6 k6 j6,.slice o7 k7 j7,.slice o8 k8 j8,.map m1,.map (some m2),.map (some m3),.map (some m4)] 125 ((w.alloc (.cells MmA 32)).alloc (.cells #[.string y.name,.bool y.up,.int .i64 y.clock,.bool y.known,.int .i64 y.seen,.slice a5 y.wants.length c5,.slice o6 k6 j6,.slice o7 k7 j7,.slice o8 k8 j8] 32))):=HP0.out.below hB2 HP0.out.lt;have HZa:=Blk.alloc w MmA 32;have HZ2:=iH (HZa.below ((Below.refl _ _).alloc nL (Obj.cells #[.string y.name,.bool y.up,.int .i64 y.clock,.bool y.known,.int .i64 y.seen,.slice a5 y.wants.length c5,.slice o6 k6 j6,.slice o7 k7 j7,.slice o8 k8 j8] 32)) HZa.lt);have HH2:=al2 w MmA 32 #[.string y.name,.bool y.up,.int .i64 y.clock,.bool y.known,.int .i64 y.seen,.slice a5 y.wants.length c5,.slice o6 k6 j6,.slice o7 k7 j7,.slice o8 k8 j8] 32;have HRG:Hid ((w.alloc (.cells MmA 32)).rangeAt p 0 [.string y.name,.bool y.up,.int .i64 y.clock,.bool y.known,.int .i64 y.seen,.slice a5 y.wants.length c5,.slice o6 k6 j6,.slice o7 k7 j7,.slice o8 k8 j8]):=fun j v hj=>HP1.out.rangeA j v (by rw [← hj];exact List.getElem?_append_left (l₂:=[.map m1,.map (some m2),.map (some m3),.map (some m4)]) (Ah hj))
 clear hb1 HZa HP1;go_enter Tryz.func36,Tryz.ntmps36;go_upto_region 2 with (refine qLr Cu HRG ?_);clear HRG;generalize (w.alloc (Obj.cells MmA 32)).alloc (Obj.cells #[.string y.name,.bool y.up,.int .i64 y.clock,.bool y.known,.int .i64 y.seen,.slice a5 y.wants.length c5,.slice o6 k6 j6,.slice o7 k7 j7,.slice o8 k8 j8] 32)=w2 at *;refine wp_region_held_drew (S:=fun wy=>Blk p #[.string y.name,.bool y.up,.int .i64 y.clock,.bool y.known,.int .i64 y.seen,.slice a5 y.wants.length c5,.slice o6 k6 j6,.slice o7 k7 j7,.slice o8 k8 j8,.map m1,.map (some m2),.map (some m3),.map (some m4)] 125 wy) (by kernel_rfl) HP2.out.drew (fun hS=>?_);have hB3:Below w.heap.size w w2.drew:=hB2.drew;have HH3:Hid (Blk (w.heap.size+1) #[.string y.name,.bool y.up,.int .i64 y.clock,.bool y.known,.int .i64 y.seen,.slice a5 y.wants.length c5,.slice o6 k6 j6,.slice o7 k7 j7,.slice o8 k8 j8] 32 w2.drew):=HH2.out.drew;have HZ3:Hid (Blk w.heap.size MmA 32 w2.drew):=HZ2.out.drew;clear HP2 HH2 HZ2 hB2;generalize w2.drew=w3 at *;refine tz 0 8 (.pointer (some ⟨p,0,none⟩)) rfl hS ?_;simp only [pX];refine tz 1 9 (.pointer (some ⟨p,0,none⟩)) rfl hS ?_;simp only [pX];refine tz 2 10 (.pointer (some ⟨p,10,none⟩)) rfl hS ?_;simp only [pX];refine tl 3 11 (.map (some m2)) ⟨p,10,none⟩ rfl (fun wy hy=>hy.cell rfl) hS ?_;simp only [pX];refine tz 5 13 (.pointer (some ⟨p,0,none⟩)) rfl hS ?_;simp only [pX];refine tz 6 14 (.pointer (some ⟨p,0,none⟩)) rfl hS ?_;simp only [pX];refine tz 7 15 (.pointer (some ⟨p,11,none⟩)) rfl hS ?_;simp only [pX];refine tl 8 16 (.map (some m3)) ⟨p,11,none⟩ rfl (fun wy hy=>hy.cell rfl) hS ?_;simp only [pX];refine tz 10 18 (.pointer (some ⟨p,0,none⟩)) rfl hS ?_;simp only [pX];refine tz 11 19 (.pointer (some ⟨p,0,none⟩)) rfl hS ?_;simp only [pX];refine tz 12 20 (.pointer (some ⟨p,12,none⟩)) rfl hS ?_;simp only [pX];refine tl 13 21 (.map (some m4)) ⟨p,12,none⟩ rfl (fun wy hy=>hy.cell rfl) hS ?_;simp only [pX];refine rd1 4 ⟨some 12,_,_,_,_,none⟩ rfl (fun K hK=>?_);go_simp;refine (Je y.runs m2 n2 D2 _ (Ak M2 hB3 M2.out.lt) hn2 T2 A6 Z6 HM.out.l6).mono ?_;rintro e w4 ⟨b6,q6,rfl,ho,hb⟩;have hB4:=qTr hB3 hb;have HH4:=qBk HH3 hb;have HZ4:=qBk HZ3 hb;have P6:=iH (Dl ho HM.out.l6 HM.out.z6);have S6:=iH (Kj ho);have hg6:w.heap.size+1<w3.heap.size:=HH3.out.lt;refine hK.out _ _ (hS.below hb hS.lt) (fun hS=>?_);clear hK K;clear hb ho HH3 HZ3 hB3;refine tz 15 23 (.pointer (some ⟨w.heap.size+1,6,none⟩)) rfl hS ?_;simp only [pX];refine rd1 9 ⟨some 17,_,_,_,_,none⟩ rfl (fun K hK=>?_);go_simp;refine (Iw y.asks m3 n3 D3 _ (Ak M3 hB4 M3.out.lt) hn3 T3 A7 Z7 HM.out.l7).mono ?_;rintro e w5 ⟨b7,q7,rfl,ho,hb⟩;have hB5:=qTr hB4 hb;have HH5:=qBk HH4 hb;have HZ5:=qBk HZ4 hb;replace P6:=qSl RnC.holds P6 hb;have P7:=iH (Cn ho HM.out.l7 HM.out.z7);have S7:=iH (Kj ho);have hg7:w.heap.size+1<w4.heap.size:=HH4.out.lt;refine hK.out _ _ (hS.below hb hS.lt) (fun hS=>?_)
 clear hK K;clear hb ho HH4 HZ4 hB4;refine rd1 14 ⟨some 22,_,_,_,_,none⟩ rfl (fun K hK=>?_);go_simp;refine (Iw y.gives m4 n4 D4 _ (Ak M4 hB5 M4.out.lt) hn4 T4 A8 Z8 HM.out.l8).mono ?_;rintro e w6 ⟨b8,q8,rfl,ho,hb⟩;have hB6:=qTr hB5 hb;have HH6:=qBk HH5 hb;have HZ6:=qBk HZ5 hb;replace P6:=qSl RnC.holds P6 hb;replace P7:=qSl AksC.holds P7 hb;have P8:=iH (Cn ho HM.out.l8 HM.out.z8);have S8:=iH (Kj ho);have hg8:w.heap.size+1<w5.heap.size:=HH5.out.lt;refine hK.out _ _ (hS.below hb hS.lt) (fun hS=>?_);clear hK K;clear hb ho HH5 HZ5 hB5;have kk:w6.cell? ⟨w.heap.size+1,6,none⟩=some (.slice o6 k6 j6):=HH6.out.cell rfl;have ff:w6.frozen? ⟨w.heap.size+1,6,none⟩=false:=HH6.out.frozen _;refine rd1 16 ⟨none,_,_,_,_,none⟩ rfl (fun K hK=>?_);go_simp;have HH7:Hid (Blk (w.heap.size+1) #[.string y.name,.bool y.up,.int .i64 y.clock,.bool y.known,.int .i64 y.seen,.slice a5 y.wants.length c5,.slice b6 y.runs.length q6,.slice o7 k7 j7,.slice o8 k8 j8] 32 (w6.setCell ⟨w.heap.size+1,6,none⟩ (.slice b6 y.runs.length q6))):=HH6.out.set 6 _;have HZ7:Hid (Blk w.heap.size MmA 32 (w6.setCell ⟨w.heap.size+1,6,none⟩ (.slice b6 y.runs.length q6))):=HZ6.out.other (a:=⟨w.heap.size+1,6,none⟩) (show w.heap.size≠w.heap.size+1 by omega) _;have hB7:Below w.heap.size w (w6.setCell ⟨w.heap.size+1,6,none⟩ (.slice b6 y.runs.length q6)):=hB6.setCell (p:=⟨w.heap.size+1,6,none⟩) (Nat.le_succ _) _;replace P6:Hid (SliceC RnC 11 w3.heap.size (w6.setCell ⟨w.heap.size+1,6,none⟩ (.slice b6 y.runs.length q6)) b6 y.runs):=P6.out.keep RnC.holds (Keeps.set (a:=⟨w.heap.size+1,6,none⟩) (show w.heap.size+1<w3.heap.size by omega) _) nL;replace P7:Hid (SliceC AksC 4 w4.heap.size (w6.setCell ⟨w.heap.size+1,6,none⟩ (.slice b6 y.runs.length q6)) b7 y.asks):=P7.out.keep AksC.holds (Keeps.set (a:=⟨w.heap.size+1,6,none⟩) (show w.heap.size+1<w4.heap.size by omega) _) nL;replace P8:Hid (SliceC AksC 4 w5.heap.size (w6.setCell ⟨w.heap.size+1,6,none⟩ (.slice b6 y.runs.length q6)) b8 y.gives):=P8.out.keep AksC.holds (Keeps.set (a:=⟨w.heap.size+1,6,none⟩) (show w.heap.size+1<w5.heap.size by omega) _) nL;refine hK.out _ _ (hS.other (a:=⟨w.heap.size+1,6,none⟩) (show p≠w.heap.size+1 by omega) _) (fun hS=>?_);clear hK K kk ff HH6 HZ6 hB6;generalize (w6.setCell ⟨w.heap.size+1,6,none⟩ (.slice b6 y.runs.length q6))=w7 at *;refine tz 17 24 (.pointer (some ⟨w.heap.size+1,7,none⟩)) rfl hS ?_;simp only [pX];have kk:w7.cell? ⟨w.heap.size+1,7,none⟩=some (.slice o7 k7 j7):=HH7.out.cell rfl;have ff:w7.frozen? ⟨w.heap.size+1,7,none⟩=false:=HH7.out.frozen _;refine rd1 18 ⟨none,_,_,_,_,none⟩ rfl (fun K hK=>?_);go_simp;have HH8:Hid (Blk (w.heap.size+1) #[.string y.name,.bool y.up,.int .i64 y.clock,.bool y.known,.int .i64 y.seen,.slice a5 y.wants.length c5,.slice b6 y.runs.length q6,.slice b7 y.asks.length q7,.slice o8 k8 j8] 32 (w7.setCell ⟨w.heap.size+1,7,none⟩ (.slice b7 y.asks.length q7))):=HH7.out.set 7 _
 have HZ8:Hid (Blk w.heap.size MmA 32 (w7.setCell ⟨w.heap.size+1,7,none⟩ (.slice b7 y.asks.length q7))):=HZ7.out.other (a:=⟨w.heap.size+1,7,none⟩) (show w.heap.size≠w.heap.size+1 by omega) _;have hB8:Below w.heap.size w (w7.setCell ⟨w.heap.size+1,7,none⟩ (.slice b7 y.asks.length q7)):=hB7.setCell (p:=⟨w.heap.size+1,7,none⟩) (Nat.le_succ _) _;replace P6:Hid (SliceC RnC 11 w3.heap.size (w7.setCell ⟨w.heap.size+1,7,none⟩ (.slice b7 y.asks.length q7)) b6 y.runs):=P6.out.keep RnC.holds (Keeps.set (a:=⟨w.heap.size+1,7,none⟩) (show w.heap.size+1<w3.heap.size by omega) _) nL;replace P7:Hid (SliceC AksC 4 w4.heap.size (w7.setCell ⟨w.heap.size+1,7,none⟩ (.slice b7 y.asks.length q7)) b7 y.asks):=P7.out.keep AksC.holds (Keeps.set (a:=⟨w.heap.size+1,7,none⟩) (show w.heap.size+1<w4.heap.size by omega) _) nL;replace P8:Hid (SliceC AksC 4 w5.heap.size (w7.setCell ⟨w.heap.size+1,7,none⟩ (.slice b7 y.asks.length q7)) b8 y.gives):=P8.out.keep AksC.holds (Keeps.set (a:=⟨w.heap.size+1,7,none⟩) (show w.heap.size+1<w5.heap.size by omega) _) nL;refine hK.out _ _ (hS.other (a:=⟨w.heap.size+1,7,none⟩) (show p≠w.heap.size+1 by omega) _) (fun hS=>?_);clear hK K kk ff HH7 HZ7 hB7;generalize (w7.setCell ⟨w.heap.size+1,7,none⟩ (.slice b7 y.asks.length q7))=w8 at *;refine tz 19 25 (.pointer (some ⟨w.heap.size+1,8,none⟩)) rfl hS ?_;simp only [pX];have kk:w8.cell? ⟨w.heap.size+1,8,none⟩=some (.slice o8 k8 j8):=HH8.out.cell rfl;have ff:w8.frozen? ⟨w.heap.size+1,8,none⟩=false:=HH8.out.frozen _;refine rd1 20 ⟨none,_,_,_,_,none⟩ rfl (fun K hK=>?_);go_simp;have HH9:Hid (Blk (w.heap.size+1) (mmA y a5 c5 b6 q6 b7 q7 b8 q8) 32 (w8.setCell ⟨w.heap.size+1,8,none⟩ (.slice b8 y.gives.length q8))):=HH8.out.set 8 _;have HZ9:Hid (Blk w.heap.size MmA 32 (w8.setCell ⟨w.heap.size+1,8,none⟩ (.slice b8 y.gives.length q8))):=HZ8.out.other (a:=⟨w.heap.size+1,8,none⟩) (show w.heap.size≠w.heap.size+1 by omega) _;have hB9:Below w.heap.size w (w8.setCell ⟨w.heap.size+1,8,none⟩ (.slice b8 y.gives.length q8)):=hB8.setCell (p:=⟨w.heap.size+1,8,none⟩) (Nat.le_succ _) _;replace P6:Hid (SliceC RnC 11 w3.heap.size (w8.setCell ⟨w.heap.size+1,8,none⟩ (.slice b8 y.gives.length q8)) b6 y.runs):=P6.out.keep RnC.holds (Keeps.set (a:=⟨w.heap.size+1,8,none⟩) (show w.heap.size+1<w3.heap.size by omega) _) nL;replace P7:Hid (SliceC AksC 4 w4.heap.size (w8.setCell ⟨w.heap.size+1,8,none⟩ (.slice b8 y.gives.length q8)) b7 y.asks):=P7.out.keep AksC.holds (Keeps.set (a:=⟨w.heap.size+1,8,none⟩) (show w.heap.size+1<w4.heap.size by omega) _) nL;replace P8:Hid (SliceC AksC 4 w5.heap.size (w8.setCell ⟨w.heap.size+1,8,none⟩ (.slice b8 y.gives.length q8)) b8 y.gives):=P8.out.keep AksC.holds (Keeps.set (a:=⟨w.heap.size+1,8,none⟩) (show w.heap.size+1<w5.heap.size by omega) _) nL;refine hK.out _ _ (hS.other (a:=⟨w.heap.size+1,8,none⟩) (show p≠w.heap.size+1 by omega) _) (fun hS=>?_)
 clear hK K kk ff HH8 HZ8 hB8;generalize (w8.setCell ⟨w.heap.size+1,8,none⟩ (.slice b8 y.gives.length q8))=w9 at *;refine td ?_;clear hS;have hg9:w.heap.size+1<w9.heap.size:=HH9.out.lt;go_wp2_with (refine qLk Cu HH9 ?_);refine (Fp y a5 c5 b6 q6 b7 q7 b8 q8 0 _ ⟨(S5.out.below WntC.holds hB9 nL).keep WntC.holds (Keeps.refl _ _) (zL),P6.out.keep RnC.holds (Keeps.refl _ _) (zL),P7.out.keep AksC.holds (Keeps.refl _ _) (zL),P8.out.keep AksC.holds (Keeps.refl _ _) (zL),P5,S6,S7,S8⟩ HM).mono ?_;rintro e wn ⟨d5,r5,d6,r6,d7,r7,d8,r8,rfl,hg,hbn⟩;have HZn:=qBk HZ9 hbn;have hBn:=qTr hB9 hbn;have HG:=iH hg;have HTZ:=iH HZn.out.there;obtain ⟨wf,HE⟩:∃ wf,Hid (wf=wn.setCells w.heap.size 0 (mmL y d5 r5 d6 r6 d7 r7 d8 r8)):=⟨_,rfl⟩;have HRf:Hid (wf.rangeAt w.heap.size 0 (mmL y d5 r5 d6 r6 d7 r7 d8 r8)):=by
  show World.rangeAt _ _ _ _
  rw [HE.out];exact World.rangeAt_setCells_same _ _ _ _ HTZ
 have hBf:Below w.heap.size w wf:=by
  rw [HE.out];exact Aa nL _ _ _ hBn
 replace HG:Hid (G4 y w.heap.size wf.heap.size d5 d6 d7 d8 wf):=by
  have hk:Keeps w9.heap.size wn wf:=by rw [HE.out];exact Keeps.setCells (by omega) _ _ _
  exact (HG.out.keep hk).widen (by omega) hk.1 nL
 clear hbn hg hBn HZn;go_wp2_with (refine Ab rfl 32 _ _ rfl w.heap.size 0 (mmA y d5 r5 d6 r6 d7 r7 d8 r8) (by first | rfl | (simp [go_sem];done)) rfl HTZ Am (by simp [Value.oneCell']) wf HE ?_);exact bodyPost_ret (Ai rfl _ _ w.heap.size (mmL y d5 r5 d6 r6 d7 r7 d8 r8) _ rfl HRf Tryz.underlying32 rfl Am) rfl ⟨d5,r5,d6,r6,d7,r7,d8,r8,rfl,HG,hBf⟩
end Go.Proofs.YtkiloaiffopllaaGreat
namespace Go.Proofs.YtkiloaiffopllaaGreat
open Go.RowKit Go.WideMaps Go.Maps
theorem Bth.below {y:Mte} {p lo kb:Nat} {W0 w w':World} (h:Bth y p lo kb W0 w) (hb:Below w.heap.size w w'):Bth y p lo kb W0 w':=by
 obtain ⟨a5,c5,o6,k6,j6,o7,k7,j7,o8,k8,j8,m1,m2,n2,m3,n3,m4,n4,D2,D3,D4,h⟩:=h;exact ⟨a5,c5,o6,k6,j6,o7,k7,j7,o8,k8,j8,m1,m2,n2,m3,n3,m4,n4,D2,D3,D4,h.below hb⟩
theorem Bth.more {y:Mte} {p lo kb:Nat} {W0 w:World} (h:Bth y p lo kb W0 w):Bth y p lo (kb+1) W0 w:=by
 obtain ⟨a5,c5,o6,k6,j6,o7,k7,j7,o8,k8,j8,m1,m2,n2,m3,n3,m4,n4,D2,D3,D4,h⟩:=h;exact ⟨a5,c5,o6,k6,j6,o7,k7,j7,o8,k8,j8,m1,m2,n2,m3,n3,m4,n4,D2,D3,D4,h.more⟩
theorem Bth.hB {y:Mte} {p lo kb:Nat} {W0 w:World} (h:Bth y p lo kb W0 w):Below W0.heap.size W0 w:=by
 obtain ⟨a5,c5,o6,k6,j6,o7,k7,j7,o8,k8,j8,m1,m2,n2,m3,n3,m4,n4,D2,D3,D4,h⟩:=h;exact h.hB
end Go.Proofs.YtkiloaiffopllaaGreat
namespace Go.Proofs.YtkiloaiffopllaaGreat
open Go.RowKit
theorem Zs {lo:Nat}:∀ (w w':World) (f g:Nat→Option Value) (x:Wnt),(∀ i,i<7→g i=f i)→WntC lo w f x→WntC lo w' g x :=
 fun w _ f g x h hx=>WntC.holds lo lo w w f g x h (Keeps.refl _ _) nL hx
theorem Yj {lo:Nat}:∀ (w w':World) (f g:Nat→Option Value) (x:Rn),(∀ i,i<11→g i=f i)→RnC lo w f x→RnC lo w' g x :=
 fun w _ f g x h hx=>RnC.holds lo lo w w f g x h (Keeps.refl _ _) nL hx
theorem Mu {lo:Nat}:∀ (w w':World) (f g:Nat→Option Value) (x:Aks),(∀ i,i<4→g i=f i)→AksC lo w f x→AksC lo w' g x :=
 fun w _ f g x h hx=>AksC.holds lo lo w w f g x h (Keeps.refl _ _) nL hx
theorem Pz {h:BA} {xs:List Aks} (hq:akI h xs=none):xs.find? (fun a=>decide (a.hold=h))=none:=by
 unfold akI at hq;rw [List.findIdx?_eq_none_iff] at hq;rw [List.find?_eq_none];intro a ha;simpa using hq a ha
theorem Pq {h:BA} {xs:List Aks} {j:Nat} (hq:akI h xs=some j):∃ a,xs[j]?=some a∧xs.find? (fun a=>decide (a.hold=h))=some a:=by
 unfold akI at hq;rw [List.findIdx?_eq_some_iff_getElem] at hq;obtain ⟨hj,h1,h2⟩:=hq;refine ⟨xs[j],gE hj,?_⟩;rw [List.find?_eq_some_iff_getElem];exact ⟨h1,j,hj,rfl,fun i hi=>by simpa using h2 i hi⟩
theorem Dk {lo b o:Nat} {w w':World} {xs:List Aks} (h:SliceC AksC 4 lo w (some ⟨b,o,none⟩) xs) (hs:w.heap.size≤w'.heap.size) (k:b<w.heap.size→w'.heap[b]?=w.heap[b]?):SliceC AksC 4 lo w' (some ⟨b,o,none⟩) xs:=by
 refine ⟨h.1,?_⟩;rcases h.2 with h0 | ⟨b1,o1,e,h1,h2,h3⟩
 ·exact .inl h0
 ·cases e
  have kb:=k h2;refine .inr ⟨_,_,rfl,⟨h1.1,fun hp p=>?_⟩,lL h2 hs,fun i x hx=>Mu w w' _ _ x (fun t _=>Ck kb) (h3 i x hx)⟩;have:=h1.2 hp p;unfold World.frozen? at this ⊢;rw [kb];exact this
structure SI (x z:Mte) (g0:Nat) (a5:OA) (c5:Nat) (a6:OA) (n6 c6 b7 q7 b8 q8:Nat) (w:World):Prop where
 hX:Blk g0 #[.string x.name,.bool x.up,.int .i64 x.clock,.bool x.known,.int .i64 x.seen,.slice a5 x.wants.length c5,.slice a6 n6 c6,.slice (some ⟨b7,0,none⟩) z.asks.length q7,.slice (some ⟨b8,0,none⟩) z.gives.length q8] 32 w
 hZ:Blk (g0+1) MmA 32 w
 s7:SliceC AksC 4 0 w (some ⟨b7,0,none⟩) z.asks
 s8:SliceC AksC 4 0 w (some ⟨b8,0,none⟩) z.gives
 k7:z.asks.length≤q7
 k8:z.gives.length≤q8
 n7:b7≠g0∧b7≠g0+1
 n8:b8≠g0∧b8≠g0+1
 b7l:b7<w.heap.size
 b8l:b8<w.heap.size
theorem SI.heap {x z:Mte} {g0:Nat} {a5:OA} {c5:Nat} {a6:OA} {n6 c6 b7 q7 b8 q8:Nat} {w w':World} (h:SI x z g0 a5 c5 a6 n6 c6 b7 q7 b8 q8 w) (hs:w.heap.size≤w'.heap.size) (k:∀ b,b<w.heap.size→(b=g0∨b=g0+1∨b=b7∨b=b8)→w'.heap[b]?=w.heap[b]?):SI x z g0 a5 c5 a6 n6 c6 b7 q7 b8 q8 w' :=
 ⟨(k _ h.hX.lt (.inl rfl)).trans h.hX,(k _ h.hZ.lt (.inr (.inl rfl))).trans h.hZ,Dk h.s7 hs (fun hl=>k _ hl (.inr (.inr (.inl rfl)))),Dk h.s8 hs (fun hl=>k _ hl (.inr (.inr (.inr rfl)))),h.k7,h.k8,h.n7,h.n8,lL h.b7l hs,lL h.b8l hs⟩
theorem SI.below {x z:Mte} {g0:Nat} {a5:OA} {c5:Nat} {a6:OA} {n6 c6 b7 q7 b8 q8:Nat} {w w':World} (h:SI x z g0 a5 c5 a6 n6 c6 b7 q7 b8 q8 w) (hb:Below w.heap.size w w'):SI x z g0 a5 c5 a6 n6 c6 b7 q7 b8 q8 w':=h.heap hb.size (fun b hl _=>hb.block b hl)
theorem SI.grown {x z:Mte} {g0:Nat} {a5:OA} {c5:Nat} {a6:OA} {n6 c6 b7 q7 b8 q8 g:Nat} {w w':World} (h:SI x z g0 a5 c5 a6 n6 c6 b7 q7 b8 q8 w) (hg:w.grownBy w' (some g)) (h1:g≠g0∧g≠g0+1) (h2:g≠b7∧g≠b8):SI x z g0 a5 c5 a6 n6 c6 b7 q7 b8 q8 w' :=
 h.heap hg.size (fun b hl hb=>hg.block b hl (fun e=>by have:=Option.some.inj e;omega))
theorem SI.to {x z y:Mte} {g0:Nat} {a5:OA} {c5:Nat} {a6:OA} {n6 c6 b7 q7 b8 q8:Nat} {w:World} (h:SI x z g0 a5 c5 a6 n6 c6 b7 q7 b8 q8 w) (ha:y.asks=z.asks) (hg:y.gives=z.gives):SI x y g0 a5 c5 a6 n6 c6 b7 q7 b8 q8 w :=
 ⟨by rw [ha,hg];exact h.hX,h.hZ,by rw [ha];exact h.s7,by rw [hg];exact h.s8,by rw [ha];exact h.k7,by rw [hg];exact h.k8,h.n7,h.n8,h.b7l,h.b8l⟩
theorem SI.set8 {x z:Mte} {g0:Nat} {a5:OA} {c5:Nat} {a6:OA} {n6 c6 b7 q7 b8 q8 b q:Nat} {gs:List Aks} {w:World} (h:SI x z g0 a5 c5 a6 n6 c6 b7 q7 b8 q8 w) (hs:SliceC AksC 4 0 w (some ⟨b,0,none⟩) gs) (hk:gs.length≤q) (hn:b≠g0∧b≠g0+1) (hl:b<w.heap.size):SI x { z with gives:=gs } g0 a5 c5 a6 n6 c6 b7 q7 b q (w.setCell ⟨g0,8,none⟩ (.slice (some ⟨b,0,none⟩) gs.length q)) :=
 have ks:∀ c,c≠g0→(w.setCell ⟨g0,8,none⟩ (.slice (some ⟨b,0,none⟩) gs.length q)).heap[c]?=w.heap[c]?:=fun c hc=>Below.heap_setCell w ⟨g0,8,none⟩ _ c hc
 have hz:w.heap.size≤(w.setCell ⟨g0,8,none⟩ (.slice (some ⟨b,0,none⟩) gs.length q)).heap.size:=Nat.le_of_eq (Al [.slice (some ⟨b,0,none⟩) gs.length q] 8 w).symm
 ⟨h.hX.set 8 _,(ks _ (by omega)).trans h.hZ,Dk h.s7 hz (fun _=>ks _ h.n7.1),Dk hs hz (fun _=>ks _ hn.1),h.k7,hk,h.n7,hn,lL h.b7l hz,lL hl hz⟩
theorem SI.set7 {x z:Mte} {g0:Nat} {a5:OA} {c5:Nat} {a6:OA} {n6 c6 b7 q7 b8 q8 b q:Nat} {gs:List Aks} {w:World} (h:SI x z g0 a5 c5 a6 n6 c6 b7 q7 b8 q8 w) (hs:SliceC AksC 4 0 w (some ⟨b,0,none⟩) gs) (hk:gs.length≤q) (hn:b≠g0∧b≠g0+1) (hl:b<w.heap.size):SI x { z with asks:=gs } g0 a5 c5 a6 n6 c6 b q b8 q8 (w.setCell ⟨g0,7,none⟩ (.slice (some ⟨b,0,none⟩) gs.length q)) :=
 have ks:∀ c,c≠g0→(w.setCell ⟨g0,7,none⟩ (.slice (some ⟨b,0,none⟩) gs.length q)).heap[c]?=w.heap[c]?:=fun c hc=>Below.heap_setCell w ⟨g0,7,none⟩ _ c hc
 have hz:w.heap.size≤(w.setCell ⟨g0,7,none⟩ (.slice (some ⟨b,0,none⟩) gs.length q)).heap.size:=Nat.le_of_eq (Al [.slice (some ⟨b,0,none⟩) gs.length q] 7 w).symm
 ⟨h.hX.set 7 _,(ks _ (by omega)).trans h.hZ,Dk hs hz (fun _=>ks _ hn.1),Dk h.s8 hz (fun _=>ks _ h.n8.1),hk,h.k8,hn,h.n8,lL hl hz,lL h.b8l hz⟩
theorem Cj {P:Program} {w:World} {ops:Array Oper} {rest:List Oper} {o:Oper} {a:Act} {Q:Exit→Act→World→Prop} (hgd:o.guard=none) (s x:Operand) (t:TypeId)
  (ho:o.op=.call { callee:=.builtin .append,args:=#[s,x],argTypes:=#[t,t] })
  (base:Nat) (e:TypeId) (i:TypeInfo) (z:Value) (size bytes:Nat) (ht:P.underlying t=some (.slice e)) (hi:P.info? e=some i) (hz:i.zero=some z)
  (hsize:i.size=size) (hby:i.bytes=bytes) (hzs:z.cells.size=size) (hsz:0<size)
  (v:Value) (n:Nat) (xs:List Value) (hs:a.eval s=v) (hown:w.ownsRow base e size v n xs)
  (ad:Addr) (m c:Nat) (news:List Value) (hx:a.eval x=.slice (some ad) m c) (hl:news.length=m*size) (hnews:∀ j u,news[j]?=some u→w.cell? (ad.add j)=some u) (h1:∀ u∈news,u.oneCell'=true)
  (h63:n+m≤maxLen) (hbytes:(n+m)*bytes≤140737488355328) (hbase:base≤w.heap.size)
  (h:∀ v' w',w'.ownsRow base e size v' (n+m) (xs++news)→w.grownBy w' v.ownBlock→(v'=.slice none 0 0↔v=.slice none 0 0∧m=0)→(v'.ownBlock=v.ownBlock∨v'.ownBlock=some w.heap.size)→wpList P ops Q rest (a.put o.dst v') w'):wpList P ops Q (o::rest) a w :=
 wpList_plain hgd fun _ hK=>Ay s x t ho base e i z size bytes ht hi hz hsize hby hzs hsz v n xs hs hown ad m c news hx hl hnews h1 h63 hbytes hbase (fun v' w' h1 h2 h3 h4=>hK _ _ (h v' w' h1 h2 h3 h4))
theorem Vh {lo b o:Nat} {w:World} {xs:List Aks} (h:SliceC AksC 4 lo w (some ⟨b,o,none⟩) xs) (hne:xs≠[]):lo≤b∧b<w.heap.size:=by
 rcases h.2 with h0 | ⟨b1,o1,e,h1,h2,_⟩
 ·exact absurd h0 hne
 ·cases e
  exact ⟨h1.1,h2⟩
theorem Ps (xs:List Aks) (a:Aks):Az (·.hold) xs a≠[]:=fun e=>by
 unfold Az at e;simp at e
theorem Wc (xs:List Rn) (k t:Nat):(Aq (xs.drop k))[t]?=(Aq xs)[k*11+t]?:=by
 by_cases h:k≤xs.length
 ·have e:Aq xs=Aq (xs.take k)++Aq (xs.drop k):=by rw [← Fh,List.take_append_drop]
  rw [e,List.getElem?_append_right (by rw [Cb,List.length_take];omega),Cb,List.length_take]
  congr 1
  omega
 ·rw [List.drop_eq_nil_of_le (by omega),List.getElem?_eq_none (l:=Aq xs) (by rw [Cb];omega)]
  rfl
theorem Pa (xs:List Rn) (k t:Nat) {u:Value} (h:(Aq (xs.take k))[t]?=some u):(Aq xs)[t]?=some u:=by
 have e:Aq xs=Aq (xs.take k)++Aq (xs.drop k):=by rw [← Fh,List.take_append_drop]
 rw [e,List.getElem?_append_left (Ah h)];exact h
theorem Uu {f:Rn→Option Rn} {xs:List Rn} {k:Nat} {r:Rn} (h:xs[k]?=some r):(xs.take (k+1)).filterMap f=(xs.take k).filterMap f++(match f r with | some y=>[y] | none=>[]):=by
 rw [List.take_add_one,h,List.filterMap_append]
 congr 1
 show List.filterMap f [r]=_
 rw [List.filterMap_cons];cases f r <;> rfl
theorem Wm {x:Mte} {r F:Rn} (h:(F,true)=lvX x r):Gx (lvX x) r=some F:=by unfold Gx;rw [← h];rfl
theorem Ym {x:Mte} {r F:Rn} (h:(F,false)=lvX x r):Gx (lvX x) r=none:=by unfold Gx;rw [← h];rfl
theorem Ta {x z:Mte} {r F:Rn} (h:(F,true)=lvX x r):(liveStep (lvX x) z r).asks=z.asks∧(liveStep (lvX x) z r).gives=z.gives:=by
 unfold liveStep;rw [if_pos (by rw [← h])];exact ⟨rfl,rfl⟩
theorem bC {x z:Mte} {r F:Rn} (h:(F,false)=lvX x r):(liveStep (lvX x) z r).asks=(Bh z r.want.hold).asks∧(liveStep (lvX x) z r).gives=(Bh z r.want.hold).gives:=by
 unfold liveStep;rw [if_neg (by rw [← h];simp)];exact Xv r.want.hold rfl rfl
theorem Sk {z:Mte} {u:Wnt} {j:Nat} (hA:Asc (·.want.copy) z.runs) (h1:∀ y∈z.runs.take j,ltN y.want.copy u.copy=true) (h2:∀ y,z.runs[j]?=some y→ltN y.want.copy u.copy=false) (h:20≤z.runs.length∨∃ y,z.runs[j]?=some y∧y.want.copy=u.copy):startStep z u=z:=by
 unfold startStep;rw [if_neg];intro c;rw [Bool.and_eq_true,Bool.not_eq_true',decide_eq_true_eq] at c;rcases h with h | ⟨y,hy,e⟩
 ·omega
 ·rw [Zc hA h1 h2,hy] at c
  have:=of_decide_eq_false c.1;exact this e
theorem Ot {z:Mte} {u:Wnt} {j:Nat} (hA:Asc (·.want.copy) z.runs) (hj:j≤z.runs.length) (h1:∀ y∈z.runs.take j,ltN y.want.copy u.copy=true) (h2:∀ y,z.runs[j]?=some y→ltN y.want.copy u.copy=false) (hl:z.runs.length<20) (h:∀ y,z.runs[j]?=some y→y.want.copy≠u.copy):startStep z u={ z with runs:=z.runs.take j++⟨u,1,u.pull,0,0⟩::z.runs.drop j }:=by
 have ha:z.runs.any (fun r=>decide (r.want.copy=u.copy))=false:=by
  rw [Zc hA h1 h2]
  cases hy:z.runs[j]? with
  | none=>rfl
  | some y=>exact decide_eq_false (h y hy)
 have hp:Az (fun a:Rn=>a.want.copy) z.runs ⟨u,1,u.pull,0,0⟩=z.runs.take j++⟨u,1,u.pull,0,0⟩::z.runs.drop j:=by
  by_cases hlt:j<z.runs.length
  ·have hy:z.runs[j]?=some z.runs[j]:=gE hlt
   exact Ss h1 hy (h2 _ hy) (h _ hy)
  ·obtain rfl:j=z.runs.length:=by omega
   rw [List.drop_length];exact Rg (nm:=fun a:Rn=>a.want.copy) h1
 unfold startStep;rw [if_pos (by rw [ha];simp [hl]),hp]
theorem aD (x:Mte):liveM x={ x with runs:=(liveM x).runs,asks:=(liveM x).asks,gives:=(liveM x).gives }:=by
 have h:∀ (rs:List Rn) (lv:Rn→Rn×Bool) (y:Mte),(rs.foldl (liveStep lv) y).name=y.name∧(rs.foldl (liveStep lv) y).up=y.up∧(rs.foldl (liveStep lv) y).clock=y.clock∧(rs.foldl (liveStep lv) y).known=y.known∧(rs.foldl (liveStep lv) y).seen=y.seen∧(rs.foldl (liveStep lv) y).wants=y.wants:=by
  intro rs lv
  induction rs with
  | nil=>intro y;exact ⟨rfl,rfl,rfl,rfl,rfl,rfl⟩
  | cons r rs ih =>
   intro y;have h2:(liveStep lv y r).name=y.name∧(liveStep lv y r).up=y.up∧(liveStep lv y r).clock=y.clock∧(liveStep lv y r).known=y.known∧(liveStep lv y r).seen=y.seen∧(liveStep lv y r).wants=y.wants:=by
    unfold liveStep Bh
    split
    ·exact ⟨rfl,rfl,rfl,rfl,rfl,rfl⟩
    ·split <;> exact ⟨rfl,rfl,rfl,rfl,rfl,rfl⟩
   obtain ⟨a,b,c,d,e,f⟩:=ih (liveStep lv y r);exact ⟨a.trans h2.1,b.trans h2.2.1,c.trans h2.2.2.1,d.trans h2.2.2.2.1,e.trans h2.2.2.2.2.1,f.trans h2.2.2.2.2.2⟩
 obtain ⟨a,b,c,d,e,f⟩:=h x.runs (lvX x) x;have e2:liveM x=⟨(liveM x).name,(liveM x).up,(liveM x).clock,(liveM x).known,(liveM x).seen,(liveM x).wants,(liveM x).runs,(liveM x).asks,(liveM x).gives⟩:=rfl;rw [e2];have a':(liveM x).name=x.name:=a;have b':(liveM x).up=x.up:=b;have c':(liveM x).clock=x.clock:=c;have d':(liveM x).known=x.known:=d;have e':(liveM x).seen=x.seen:=e;have f':(liveM x).wants=x.wants:=f;rw [a',b',c',d',e',f']
theorem Wf (x:Mte):startM x={ x with runs:=(startM x).runs }:=by
 have h:∀ (ws:List Wnt) (y:Mte),ws.foldl startStep y={ y with runs:=(ws.foldl startStep y).runs }:=by
  intro ws
  induction ws with
  | nil=>intro y;rfl
  | cons u ws ih =>
   intro y;rw [List.foldl_cons,ih (startStep y u)];unfold startStep
   split <;> rfl
 exact h x.wants x
end Go.Proofs.YtkiloaiffopllaaGreat
