import Derived.Test.YtkiloaiffopllaaGreatJ39
set_option maxHeartbeats 8000000
set_option maxRecDepth 100000
namespace Go.Proofs.YtkiloaiffopllaaGreat
open Go.RowKit
theorem Qv (x:Mte) (a5:OA) (c5:Nat) (a6:OA) (c6 b7 q7 b8 q8 lo:Nat) (w:World) (hin:MSv x lo a5 a6 (some ⟨b7,0,none⟩) (some ⟨b8,0,none⟩) w) (hok:TOk x) (hk7:x.asks.length≤q7) (hk8:x.gives.length≤q8) (hl7:b7<w.heap.size) (hl8:b8<w.heap.size) :
  Calls Tryz.prog 22 #[.agg (mmA x a5 c5 a6 c6 (some ⟨b7,0,none⟩) q7 (some ⟨b8,0,none⟩) q8)] w fun e w'=>∃ (y:Mte) (b6 q6 b7 q7 b8 q8:Nat),y=startM (liveM x)∧e=.returned (.agg (mmA y a5 c5 (some ⟨b6,0,none⟩) q6 (some ⟨b7,0,none⟩) q7 (some ⟨b8,0,none⟩) q8))∧MSv y 0 a5 (some ⟨b6,0,none⟩) (some ⟨b7,0,none⟩) (some ⟨b8,0,none⟩) w'∧(y.asks.length≤q7∧y.gives.length≤q8)∧(b6<w'.heap.size∧b7<w'.heap.size∧b8<w'.heap.size)∧Below w.heap.size w w':=by
 have hn7:b7≠w.heap.size∧b7≠w.heap.size+1:=by omega
 have hn8:b8≠w.heap.size∧b8≠w.heap.size+1:=by omega
 obtain ⟨i0,hi,hz0,hz1,hz2⟩:=info_parts Ei;have HI0:=iH hi;have HI:=iH hin;have HOK:=iH hok;clear hi hin hok;have HX0:=Blk.alloc w (mmA x a5 c5 a6 c6 (some ⟨b7,0,none⟩) q7 (some ⟨b8,0,none⟩) q8) 32;have HZ:=al2 w (mmA x a5 c5 a6 c6 (some ⟨b7,0,none⟩) q7 (some ⟨b8,0,none⟩) q8) 32 MmA 32;have hB2:=bl2 w (mmA x a5 c5 a6 c6 (some ⟨b7,0,none⟩) q7 (some ⟨b8,0,none⟩) q8) 32 MmA 32;have HX:=iH (HX0.below ((Below.refl _ _).alloc nL (Obj.cells MmA 32)) HX0.lt);have hzw:w.heap.size+1<((w.alloc (.cells (mmA x a5 c5 a6 c6 (some ⟨b7,0,none⟩) q7 (some ⟨b8,0,none⟩) q8) 32)).alloc (.cells MmA 32)).heap.size:=HZ.out.lt;clear HX0;have HS0:Hid (SI x x w.heap.size a5 c5 a6 x.runs.length c6 b7 q7 b8 q8 ((w.alloc (Obj.cells (mmA x a5 c5 a6 c6 (some ⟨b7,0,none⟩) q7 (some ⟨b8,0,none⟩) q8) 32)).alloc (Obj.cells MmA 32))):=⟨HX,HZ,(HI.out.below hB2 nL).s7.keep AksC.holds (Keeps.refl _ _) (zL),(HI.out.below hB2 nL).s8.keep AksC.holds (Keeps.refl _ _) (zL),hk7,hk8,hn7,hn8,lL hl7 hB2.size,lL hl8 hB2.size⟩;clear HX HZ;go_enter Tryz.func22,Tryz.ntmps22;go_upto_region 1 with fail;generalize (w.alloc (Obj.cells (mmA x a5 c5 a6 c6 (some ⟨b7,0,none⟩) q7 (some ⟨b8,0,none⟩) q8) 32)).alloc (Obj.cells MmA 32)=w2 at *;have hb3:=(Below.refl _ w2).alloc nL (Obj.cells #[] 88);have HR0:Hid ((w2.alloc (Obj.cells #[] 88)).ownsRow (w.heap.size+2) 88 11 (.slice (some ⟨w2.heap.size,0,none⟩) 0 0) 0 []):=World.ownsRow_made w2 #[] 0 (by omega) (zL) rfl;replace HS0:=iH (HS0.out.below hb3);replace hB2:=qTr hB2 hb3;have hne0:w2.heap.size≠b7∧w2.heap.size≠b8:=by omega
 clear hb3;have hl6:x.runs.length≤20:=HOK.out.l6;have hl5:x.wants.length≤10:=HOK.out.l5;go_upto_region 3 with fail;generalize w2.alloc (Obj.cells #[] 88)=w3 at *;go_loopw [3,4] (fun v i wr=>∃ (k g q b7 q7 b8 q8:Nat) (rs:List Rn),k≤x.runs.length∧i=.int .i64 k∧v=.slice (some ⟨g,0,none⟩) rs.length q∧Hid (rs=(x.runs.take k).filterMap (Gx (lvX x)))∧Hid (SI x (liveTo x k) w.heap.size a5 c5 a6 x.runs.length c6 b7 q7 b8 q8 wr)∧Hid (wr.ownsRow (w.heap.size+2) 88 11 (.slice (some ⟨g,0,none⟩) rs.length q) rs.length (Aq rs))∧(g≠b7∧g≠b8)∧Below w.heap.size w wr) (fun _ i _=>x.runs.length - (intOf i).toNat)
 case atStart=>exact ⟨0,w2.heap.size,0,b7,q7,b8,q8,[],zL,rfl,rfl,rfl,HS0,HR0,hne0,hB2⟩
 case round =>
  clear HS0 HR0 hne0 hB2 hk7 hk8 hn7 hn8 hl7 hl8;obtain ⟨k,g,q,b7,q7,b8,q8,rs,hk,rfl,rfl,HRS,HSI,HR,hne,hB⟩:=hrel;have hgb:=(HR.out.lt g rfl).1;have hrl:rs.length≤20:=by rw [HRS.out];exact lT (List.length_filterMap_le _ _) (by rw [List.length_take];omega)
  by_cases hlt:k<x.runs.length
  case neg =>
   have hke:k=x.runs.length:=by omega
   obtain ⟨L,hL⟩:∃ L,L=liveM x:=⟨_,rfl⟩;have HLE:Hid (liveTo x k=L):=by show _=_;rw [hke,Ja,hL]
   have HL6:Hid (L.runs=rs):=by show _=_;rw [← HLE.out,Lb HOK.out,HRS.out,hke,List.drop_length,List.append_nil]
   have HLO:Hid (TOk L):=by show TOk _;rw [hL];exact HOK.out.liveM
   have HLW:Hid (L.wants=x.wants):=by show _=_;rw [hL];exact (Da _ _ _).1
   have HLL:=iH hL;rw [HLE.out] at HSI;clear HLE hke hL HRS;have kc6:wr.cell? ⟨w.heap.size,6,none⟩=some (.slice a6 x.runs.length c6):=HSI.out.hX.cell rfl;go_wp2_with fail;clear kc6;go_loopw [3,11] (fun v i wz=>∃ (k g q:Nat) (rs:List Rn),k≤x.wants.length∧i=.int .i64 k∧v=.slice (some ⟨g,0,none⟩) rs.length q∧Hid (rs=(startTo L k).runs)∧Hid (SI x L w.heap.size a5 c5 a6 x.runs.length c6 b7 q7 b8 q8 wz)∧Hid (wz.ownsRow (w.heap.size+2) 88 11 (.slice (some ⟨g,0,none⟩) rs.length q) rs.length (Aq rs))∧(g≠b7∧g≠b8)∧Below w.heap.size w wz) (fun _ i _=>x.wants.length - (intOf i).toNat)
   case atStart=>exact ⟨0,g,q,rs,zL,rfl,rfl,HL6.out.symm,HSI,HR,hne,hB⟩
   case round =>
    clear HSI HR hne hB hgb hrl HL6 hlt hk;obtain ⟨k,g,q,rs,hk,rfl,rfl,HRS,HSI,HR,hne,hB⟩:=hrel;have hgb:=(HR.out.lt g rfl).1;have hgu:=(HR.out.lt g rfl).2;have hrl:rs.length≤20:=by rw [HRS.out];exact (HLO.out.startTo k).l6
    have hcap:=Ho HR;have kc5:wr.cell? ⟨w.heap.size,5,none⟩=some (.slice a5 x.wants.length c5):=HSI.out.hX.cell rfl;by_cases hlt:k<x.wants.length
    case neg =>
     have HYE:Hid (⟨x.name,x.up,x.clock,x.known,x.seen,x.wants,rs,L.asks,L.gives⟩=startM (liveM x)):=by
      show _=_
      have e1:rs=(startM L).runs:=by rw [HRS.out,show k=L.wants.length by rw [HLW.out];omega,Hf]
      rw [Wf (liveM x),← HLL.out,← e1];have e2:=aD x;rw [← HLL.out] at e2;rw [e2]
     have k6:wr.cell? ⟨w.heap.size,6,none⟩=some (.slice a6 x.runs.length c6):=HSI.out.hX.cell rfl;have f6:wr.frozen? ⟨w.heap.size,6,none⟩=false:=HSI.out.hX.frozen 6;have HX9:Hid (Blk w.heap.size #[.string x.name,.bool x.up,.int .i64 x.clock,.bool x.known,.int .i64 x.seen,.slice a5 x.wants.length c5,.slice (some ⟨g,0,none⟩) rs.length q,.slice (some ⟨b7,0,none⟩) L.asks.length q7,.slice (some ⟨b8,0,none⟩) L.gives.length q8] 32 (wr.setCell ⟨w.heap.size,6,none⟩ (.slice (some ⟨g,0,none⟩) rs.length q))):=HSI.out.hX.set 6 _;have HZ9:Hid (Blk (w.heap.size+1) MmA 32 (wr.setCell ⟨w.heap.size,6,none⟩ (.slice (some ⟨g,0,none⟩) rs.length q))):=HSI.out.hZ.other (by simp) _;have HKS:Hid (∀ b,b≠w.heap.size→(wr.setCell ⟨w.heap.size,6,none⟩ (.slice (some ⟨g,0,none⟩) rs.length q)).heap[b]?=wr.heap[b]?):=fun b hb=>Below.heap_setCell wr ⟨w.heap.size,6,none⟩ _ b hb
     have hB9:Below w.heap.size w (wr.setCell ⟨w.heap.size,6,none⟩ (.slice (some ⟨g,0,none⟩) rs.length q)):=hB.setCell (p:=⟨w.heap.size,6,none⟩) nL _;have hs9:(wr.setCell ⟨w.heap.size,6,none⟩ (.slice (some ⟨g,0,none⟩) rs.length q)).heap.size=wr.heap.size:=Al [.slice (some ⟨g,0,none⟩) rs.length q] 6 wr;have HS9:=iH hs9;clear hs9;go_upto_region 25 with fail;clear k6 f6 kc5;generalize wr.setCell ⟨w.heap.size,6,none⟩ (.slice (some ⟨g,0,none⟩) rs.length q)=w9 at *;have HTS:=iH HZ9.out.there;obtain ⟨wf,HE⟩:∃ wf,Hid (wf=w9.setCells (w.heap.size+1) 0 [.string x.name,.bool x.up,.int .i64 x.clock,.bool x.known,.int .i64 x.seen,.slice a5 x.wants.length c5,.slice (some ⟨g,0,none⟩) rs.length q,.slice (some ⟨b7,0,none⟩) L.asks.length q7,.slice (some ⟨b8,0,none⟩) L.gives.length q8]):=⟨_,rfl⟩;have HRf:Hid (wf.rangeAt (w.heap.size+1) 0 [.string x.name,.bool x.up,.int .i64 x.clock,.bool x.known,.int .i64 x.seen,.slice a5 x.wants.length c5,.slice (some ⟨g,0,none⟩) rs.length q,.slice (some ⟨b7,0,none⟩) L.asks.length q7,.slice (some ⟨b8,0,none⟩) L.gives.length q8]):=by show World.rangeAt _ _ _ _;rw [HE.out];exact World.rangeAt_setCells_same _ _ _ _ HTS
     have hBf:Below w.heap.size w wf:=by rw [HE.out];exact Aa (by omega) _ _ _ hB9
     have HSF:Hid (wf.heap.size=wr.heap.size):=by show _=_;rw [HE.out,Al,HS9.out]
     have HKF:Hid (∀ b,b≠w.heap.size→b≠w.heap.size+1→wf.heap[b]?=wr.heap[b]?):=fun b h1 h2=>by rw [HE.out];exact (Bv _ _ h2 _ _ _).trans (HKS b h1)
     have HRW:=iH (Dl (Be HR (fun b o sp l c e=>by cases e;exact HKF.out _ (by omega) (by omega))) (by omega) (fun y hy=>by have h9:=(HLO.out.startTo k).z6 y (by rw [← HRS.out];exact hy);omega));have HM:Hid (MSv ⟨x.name,x.up,x.clock,x.known,x.seen,x.wants,rs,L.asks,L.gives⟩ 0 a5 (some ⟨g,0,none⟩) (some ⟨b7,0,none⟩) (some ⟨b8,0,none⟩) wf):=⟨(HI.out.below hBf nL).s5.keep WntC.holds (Keeps.refl _ _) (zL),HRW.out.keep RnC.holds (Keeps.refl _ _) (zL),Dk HSI.out.s7 (by rw [HSF.out];exact Nat.le_refl _) (fun _=>HKF.out _ HSI.out.n7.1 HSI.out.n7.2),Dk HSI.out.s8 (by rw [HSF.out];exact Nat.le_refl _) (fun _=>HKF.out _ HSI.out.n8.1 HSI.out.n8.2),HI.out.p5,fun b o s e=>by cases e;rfl,fun b o s e=>by cases e;rfl,fun b o s e=>by cases e;rfl⟩;have hbl:g<wf.heap.size∧b7<wf.heap.size∧b8<wf.heap.size:=by rw [HSF.out];exact ⟨hgu,HSI.out.b7l,HSI.out.b8l⟩
     have hcs:L.asks.length≤q7∧L.gives.length≤q8:=⟨HSI.out.k7,HSI.out.k8⟩;clear HSI HR hB hB9 HKS HKF HRW HS9;go_wp2_with (first | (refine qLk Cu HX9 ?_) | (refine Ab rfl 32 _ _ rfl (w.heap.size+1) 0 #[.string x.name,.bool x.up,.int .i64 x.clock,.bool x.known,.int .i64 x.seen,.slice a5 x.wants.length c5,.slice (some ⟨g,0,none⟩) rs.length q,.slice (some ⟨b7,0,none⟩) L.asks.length q7,.slice (some ⟨b8,0,none⟩) L.gives.length q8] (by first | rfl | (simp [go_sem];done)) rfl HTS Am (by simp [Value.oneCell']) wf HE ?_));exact bodyPost_ret (Ai rfl _ _ (w.heap.size+1) [.string x.name,.bool x.up,.int .i64 x.clock,.bool x.known,.int .i64 x.seen,.slice a5 x.wants.length c5,.slice (some ⟨g,0,none⟩) rs.length q,.slice (some ⟨b7,0,none⟩) L.asks.length q7,.slice (some ⟨b8,0,none⟩) L.gives.length q8] _ rfl HRf Tryz.underlying32 rfl Am) rfl ⟨⟨x.name,x.up,x.clock,x.known,x.seen,x.wants,rs,L.asks,L.gives⟩,g,q,b7,q7,b8,q8,HYE,rfl,HM,hcs,hbl,hBf⟩
    obtain ⟨u,hu⟩:=gXe hlt;have huL:L.wants[k]?=some u:=by rw [HLW.out];exact hu
    obtain ⟨b,o,rfl,_,hbl,hc⟩:=(HI.out.below hB nL).s5.at hu;have HRA:=iH (Du hc);have hba:=(Below.refl _ wr).alloc nL (Obj.cells (wwA u) 86);have HUB:=iH (Blk.alloc wr (wwA u) 86);have HSB:=iH (HSI.out.below hba);have HRB0:=iH (Ae HR hba);have hBB:=qTr hB hba;obtain ⟨z,hz⟩:∃ z,z=startTo L k:=⟨_,rfl⟩;have HZR:Hid (z.runs=rs):=by show _=_;rw [hz,HRS.out]
    have HZA:Hid (Asc (·.want.copy) z.runs):=by rw [hz];exact (HLO.out.startTo k).A6
    have HZS:Hid (startTo L (k+1)=startStep z u):=by show _=_;rw [Dw huL,hz]
    clear hz hc hbl hu huL HSI HR hB hba HRS;go_upto_region 19 with (refine qLr Gr HRA ?_);clear HRA kc5;generalize wr.alloc (Obj.cells (wwA u) 86)=wb at *;generalize wr.heap.size=gu at *;have HCR:Hid (∀ wy,Below wb.heap.size wb wy→∀ j y,rs[j]?=some y→wy.cell? ⟨g,j*11,none⟩=some (.string y.want.copy)):=fun wy hy j y hj=>by have h9:=(Ae HRB0 hy).cellAt (j*11) (by have:=Ah hj;omega);rw [h9];exact Ih rs j y 0 hj (by omega)
    have HUC:Hid (∀ wy,Below wb.heap.size wb wy→wy.cell? ⟨gu,0,none⟩=some (.string u.copy)):=fun wy hy=>(HUB.out.below hy HUB.out.lt).cell rfl
    go_wp2_with fail;go_loopw [13] (fun i wy=>∃ j:Nat,j≤rs.length∧i=.int .i64 j∧Hid (∀ y∈rs.take j,ltN y.want.copy u.copy=true)∧Hid (Below wb.heap.size wb wy)) (fun i _=>rs.length - (intOf i).toNat)
    case atStart=>exact ⟨0,zL,rfl,fun y hy=>by simp at hy,Below.refl _ _⟩
    case round =>
     obtain ⟨j,hj,rfl,HJ,HBJ⟩:=hrel;go_upto_region 20 with fail
     go_cut [114] (fun v wq=>∃ bv:Bool,v=.bool bv∧Hid (bv=true→j<rs.length∧∀ y∈rs.take (j+1),ltN y.want.copy u.copy=true)∧Hid (bv=false→∀ y,rs[j]?=some y→ltN y.want.copy u.copy=false)∧Hid (Below wb.heap.size wb wq))
     case first =>
      by_cases hjl:j<rs.length
      case neg =>
       refine wp_region_held_drew (S:=fun wy=>wy=wr.drew) (by kernel_rfl) rfl (fun hS=>?_);refine tz 0 100 (.int .i64 j) rfl hS ?_;simp only [pX];refine tz 1 101 (.slice (some ⟨g,0,none⟩) rs.length q) rfl hS ?_;simp only [pX];refine tz 2 102 (.int .i64 rs.length) rfl hS ?_;simp only [pX];refine ty 3 ⟨some 103,_,_,_,_,none⟩ (.bool false) rfl (by rfl) ?_ hS ?_
       ·intro wy hy
        clear hy
        (first | (go_simp;done) | (go_simp;omega) | (go_simp;simp;omega))
       simp only [pX];refine tz 4 104 (.bool false) rfl hS ?_;simp only [pX];refine ts 5 105 rfl hS ?_;simp only [pX];refine ts 6 106 rfl hS ?_;simp only [pX];refine ts 7 107 rfl hS ?_;simp only [pX];refine ts 8 108 rfl hS ?_;simp only [pX];refine ts 9 109 rfl hS ?_;simp only [pX];refine ts 10 110 rfl hS ?_;simp only [pX];refine ts 11 111 rfl hS ?_;simp only [pX];refine ts 12 112 rfl hS ?_;simp only [pX];refine ts 13 113 rfl hS ?_;simp only [pX];refine tz 14 114 (.bool false) rfl hS ?_;simp only [pX];refine td ?_;clear hS;go_wp2_with fail;go_meet;exact ⟨false,rfl,(fun e=>by cases e),(fun _ y hy=>by have:=Ah hy;omega),HBJ.out.drew⟩
      obtain ⟨y,hy⟩:=gXe hjl;have HY:=iH hy;clear hy
      cases hlv:ltN y.want.copy u.copy with
      | true =>
       refine wp_region_held_drew (S:=fun wy=>wy=wr.drew) (by kernel_rfl) rfl (fun hS=>?_);refine tz 0 100 (.int .i64 j) rfl hS ?_;simp only [pX];refine tz 1 101 (.slice (some ⟨g,0,none⟩) rs.length q) rfl hS ?_;simp only [pX];refine tz 2 102 (.int .i64 rs.length) rfl hS ?_;simp only [pX];refine ty 3 ⟨some 103,_,_,_,_,none⟩ (.bool true) rfl (by rfl) ?_ hS ?_
       ·intro wy hy
        clear hy
        (first | (go_simp;done) | (go_simp;omega) | (go_simp;simp;omega))
       simp only [pX];refine tz 4 104 (.bool true) rfl hS ?_;simp only [pX];refine tz 5 105 (.slice (some ⟨g,0,none⟩) rs.length q) rfl hS ?_;simp only [pX];refine tz 6 106 (.int .i64 j) rfl hS ?_;simp only [pX];refine x0 7 107 (.pointer (some ⟨g,j*11,none⟩)) rfl hS ?_;simp only [pX];refine tz 8 108 (.pointer (some ⟨g,j*11,none⟩)) rfl hS ?_;simp only [pX];refine tz 9 109 (.pointer (some ⟨g,j*11,none⟩)) rfl hS ?_;simp only [pX];refine tl 10 110 (.string y.want.copy) ⟨g,j*11,none⟩ rfl (fun wy hy=>by rw [hy];exact HCR.out _ HBJ.out.drew j y HY) hS ?_;simp only [pX];refine tz 11 111 (.pointer (some ⟨gu,0,none⟩)) rfl hS ?_;simp only [pX];refine tl 12 112 (.string u.copy) ⟨gu,0,none⟩ rfl (fun wy hy=>by rw [hy];exact HUC.out _ HBJ.out.drew) hS ?_;simp only [pX];refine ty 13 ⟨some 113,_,_,_,_,some (4,true)⟩ (.bool true) rfl (by rfl) ?_ hS ?_
       ·intro wy hy
        clear hy
        (first | (go_simp;done) | (go_simp;rw [hlv];done) | (go_simp;simp [hlv];done) | (unfold ltN at hlv;go_simp;done) | (unfold ltN at hlv;go_simp;simp [hlv]))
       simp only [pX];refine tz 14 114 (.bool true) rfl hS ?_;simp only [pX];refine td ?_;clear hS;go_wp2_with fail;go_meet;exact ⟨true,rfl,(fun _=>⟨hjl,Ut HJ HY hlv⟩),(fun e=>by cases e),HBJ.out.drew⟩
      | false =>
       refine wp_region_held_drew (S:=fun wy=>wy=wr.drew) (by kernel_rfl) rfl (fun hS=>?_);refine tz 0 100 (.int .i64 j) rfl hS ?_;simp only [pX];refine tz 1 101 (.slice (some ⟨g,0,none⟩) rs.length q) rfl hS ?_;simp only [pX];refine tz 2 102 (.int .i64 rs.length) rfl hS ?_;simp only [pX];refine ty 3 ⟨some 103,_,_,_,_,none⟩ (.bool true) rfl (by rfl) ?_ hS ?_
       ·intro wy hy
        clear hy
        (first | (go_simp;done) | (go_simp;omega) | (go_simp;simp;omega))
       simp only [pX];refine tz 4 104 (.bool true) rfl hS ?_;simp only [pX];refine tz 5 105 (.slice (some ⟨g,0,none⟩) rs.length q) rfl hS ?_;simp only [pX];refine tz 6 106 (.int .i64 j) rfl hS ?_;simp only [pX];refine x0 7 107 (.pointer (some ⟨g,j*11,none⟩)) rfl hS ?_;simp only [pX];refine tz 8 108 (.pointer (some ⟨g,j*11,none⟩)) rfl hS ?_;simp only [pX];refine tz 9 109 (.pointer (some ⟨g,j*11,none⟩)) rfl hS ?_;simp only [pX];refine tl 10 110 (.string y.want.copy) ⟨g,j*11,none⟩ rfl (fun wy hy=>by rw [hy];exact HCR.out _ HBJ.out.drew j y HY) hS ?_;simp only [pX];refine tz 11 111 (.pointer (some ⟨gu,0,none⟩)) rfl hS ?_;simp only [pX];refine tl 12 112 (.string u.copy) ⟨gu,0,none⟩ rfl (fun wy hy=>by rw [hy];exact HUC.out _ HBJ.out.drew) hS ?_;simp only [pX];refine ty 13 ⟨some 113,_,_,_,_,some (4,true)⟩ (.bool false) rfl (by rfl) ?_ hS ?_
       ·intro wy hy
        clear hy
        (first | (go_simp;done) | (go_simp;rw [hlv];done) | (go_simp;simp [hlv];done) | (unfold ltN at hlv;go_simp;done) | (unfold ltN at hlv;go_simp;simp [hlv]))
       simp only [pX];refine tz 14 114 (.bool false) rfl hS ?_;simp only [pX];refine td ?_;clear hS;go_wp2_with fail;go_meet;exact ⟨false,rfl,(fun e=>by cases e),(fun _ z hz=>by rw [HY.out] at hz;cases hz;exact hlv),HBJ.out.drew⟩
     case rest =>
      obtain ⟨bv,rfl,HT,HF,HBK⟩:=hcut;clear HBJ;generalize wc=wk at *
      cases bv with
      | true =>
       have hjl:=(HT rfl).1;have HJ2:Hid (∀ y∈rs.take (j+1),ltN y.want.copy u.copy=true):=(HT rfl).2;clear HT HF;go_wp2_with fail;go_roundw
       case rel=>exact ⟨j+1,by omega,by go_num,HJ2,HBK⟩
       case measure=>simp [intOf];omega
      | false =>
       have HNO:Hid (∀ y,rs[j]?=some y→ltN y.want.copy u.copy=false):=HF.out rfl;clear HT HF;go_upto_region 22 with fail
       go_cut [136] (fun v wq=>∃ bv:Bool,v=.bool bv∧Hid (bv=true→startStep z u=z)∧Hid (bv=false→rs.length<20∧startStep z u={ z with runs:=rs.take j++⟨u,1,u.pull,0,0⟩::rs.drop j })∧Hid (Below wb.heap.size wb wq))
       case first =>
        by_cases hbig:20≤rs.length
        case pos =>
         refine wp_region_held_drew (S:=fun wy=>wy=wk.drew) (by kernel_rfl) rfl (fun hS=>?_);refine tz 0 117 (.slice (some ⟨g,0,none⟩) rs.length q) rfl hS ?_;simp only [pX];refine tz 1 118 (.int .i64 rs.length) rfl hS ?_;simp only [pX];refine ty 2 ⟨some 119,_,_,_,_,none⟩ (.bool true) rfl (by rfl) ?_ hS ?_
         ·intro wy hy
          clear hy
          (first | (go_simp;done) | (go_simp;omega) | (go_simp;simp;omega))
         simp only [pX];refine tz 3 120 (.bool true) rfl hS ?_;simp only [pX];refine ts 4 121 rfl hS ?_;simp only [pX];refine ts 5 122 rfl hS ?_;simp only [pX];refine ts 6 123 rfl hS ?_;simp only [pX];refine ts 7 124 rfl hS ?_;simp only [pX];refine ts 8 125 rfl hS ?_;simp only [pX];refine ts 9 126 rfl hS ?_;simp only [pX];refine ts 10 127 rfl hS ?_;simp only [pX];refine ts 11 128 rfl hS ?_;simp only [pX];refine ts 12 129 rfl hS ?_;simp only [pX];refine ts 13 130 rfl hS ?_;simp only [pX];refine ts 14 131 rfl hS ?_;simp only [pX];refine ts 15 132 rfl hS ?_;simp only [pX];refine ts 16 133 rfl hS ?_;simp only [pX];refine ts 17 134 rfl hS ?_;simp only [pX];refine ts 18 135 rfl hS ?_;simp only [pX];refine tz 19 136 (.bool true) rfl hS ?_;simp only [pX];refine td ?_;clear hS;go_wp2_with fail;go_meet;exact ⟨true,rfl,(fun _=>Sk HZA (by rw [HZR.out];exact HJ.out) (by rw [HZR.out];exact HNO.out) (.inl (by rw [HZR.out];exact hbig))),(fun e=>by cases e),HBK.out.drew⟩
        by_cases hjl:j<rs.length
        case neg =>
         have HNE:Hid (∀ y,rs[j]?=some y→y.want.copy≠u.copy):=fun y hy=>by have:=Ah hy;omega
         refine wp_region_held_drew (S:=fun wy=>wy=wk.drew) (by kernel_rfl) rfl (fun hS=>?_);refine tz 0 117 (.slice (some ⟨g,0,none⟩) rs.length q) rfl hS ?_;simp only [pX];refine tz 1 118 (.int .i64 rs.length) rfl hS ?_;simp only [pX];refine ty 2 ⟨some 119,_,_,_,_,none⟩ (.bool false) rfl (by rfl) ?_ hS ?_
         ·intro wy hy
          clear hy
          (first | (go_simp;done) | (go_simp;omega) | (go_simp;simp;omega))
         simp only [pX];refine tz 3 120 (.bool false) rfl hS ?_;simp only [pX];refine tz 4 121 (.int .i64 j) rfl hS ?_;simp only [pX];refine tz 5 122 (.slice (some ⟨g,0,none⟩) rs.length q) rfl hS ?_;simp only [pX];refine tz 6 123 (.int .i64 rs.length) rfl hS ?_;simp only [pX];refine ty 7 ⟨some 124,_,_,_,_,some (3,false)⟩ (.bool false) rfl (by rfl) ?_ hS ?_
         ·intro wy hy
          clear hy
          (first | (go_simp;done) | (go_simp;omega) | (go_simp;simp;omega))
         simp only [pX];refine tz 8 125 (.bool false) rfl hS ?_;simp only [pX];refine ts 9 126 rfl hS ?_;simp only [pX];refine ts 10 127 rfl hS ?_;simp only [pX];refine ts 11 128 rfl hS ?_;simp only [pX];refine ts 12 129 rfl hS ?_;simp only [pX];refine ts 13 130 rfl hS ?_;simp only [pX];refine ts 14 131 rfl hS ?_;simp only [pX];refine ts 15 132 rfl hS ?_;simp only [pX];refine ts 16 133 rfl hS ?_;simp only [pX];refine ts 17 134 rfl hS ?_;simp only [pX];refine tz 18 135 (.bool false) rfl hS ?_;simp only [pX];refine tz 19 136 (.bool false) rfl hS ?_;simp only [pX];refine td ?_;clear hS;go_wp2_with fail;go_meet;exact ⟨false,rfl,(fun e=>by cases e),(fun _=>⟨by omega,by have h9:=Ot HZA (by rw [HZR.out];exact hj) (by rw [HZR.out];exact HJ.out) (by rw [HZR.out];exact HNO.out) (by rw [HZR.out];omega) (by rw [HZR.out];exact HNE.out);rw [HZR.out] at h9;exact h9⟩),HBK.out.drew⟩
        obtain ⟨y,hy⟩:=gXe hjl;have HY:=iH hy;clear hy;by_cases hyu:y.want.copy=u.copy
        case pos =>
         have HYU:=iH hyu;have hev:(y.want.copy.toList == u.copy.toList)=true:=by rw [hyu];simp
         clear hyu;refine wp_region_held_drew (S:=fun wy=>wy=wk.drew) (by kernel_rfl) rfl (fun hS=>?_);refine tz 0 117 (.slice (some ⟨g,0,none⟩) rs.length q) rfl hS ?_;simp only [pX];refine tz 1 118 (.int .i64 rs.length) rfl hS ?_;simp only [pX];refine ty 2 ⟨some 119,_,_,_,_,none⟩ (.bool false) rfl (by rfl) ?_ hS ?_
         ·intro wy hy
          clear hy
          (first | (go_simp;done) | (go_simp;omega) | (go_simp;simp;omega))
         simp only [pX];refine tz 3 120 (.bool false) rfl hS ?_;simp only [pX];refine tz 4 121 (.int .i64 j) rfl hS ?_;simp only [pX];refine tz 5 122 (.slice (some ⟨g,0,none⟩) rs.length q) rfl hS ?_;simp only [pX];refine tz 6 123 (.int .i64 rs.length) rfl hS ?_;simp only [pX];refine ty 7 ⟨some 124,_,_,_,_,some (3,false)⟩ (.bool true) rfl (by rfl) ?_ hS ?_
         ·intro wy hy
          clear hy
          (first | (go_simp;done) | (go_simp;omega) | (go_simp;simp;omega))
         simp only [pX];refine tz 8 125 (.bool true) rfl hS ?_;simp only [pX];refine tz 9 126 (.slice (some ⟨g,0,none⟩) rs.length q) rfl hS ?_;simp only [pX];refine tz 10 127 (.int .i64 j) rfl hS ?_;simp only [pX];refine x0 11 128 (.pointer (some ⟨g,j*11,none⟩)) rfl hS ?_;simp only [pX];refine tz 12 129 (.pointer (some ⟨g,j*11,none⟩)) rfl hS ?_;simp only [pX];refine tz 13 130 (.pointer (some ⟨g,j*11,none⟩)) rfl hS ?_;simp only [pX];refine tl 14 131 (.string y.want.copy) ⟨g,j*11,none⟩ rfl (fun wy hy=>by rw [hy];exact HCR.out _ HBK.out.drew j y HY) hS ?_;simp only [pX];refine tz 15 132 (.pointer (some ⟨gu,0,none⟩)) rfl hS ?_;simp only [pX];refine tl 16 133 (.string u.copy) ⟨gu,0,none⟩ rfl (fun wy hy=>by rw [hy];exact HUC.out _ HBK.out.drew) hS ?_;simp only [pX];refine ty 17 ⟨some 134,_,_,_,_,some (8,true)⟩ (.bool true) rfl (by rfl) ?_ hS ?_
         ·intro wy hy
          clear hy
          (first | (go_simp;done) | (go_simp;rw [hev];done) | (go_simp;simp [hev];done))
         simp only [pX];refine tz 18 135 (.bool true) rfl hS ?_;simp only [pX];refine tz 19 136 (.bool true) rfl hS ?_;simp only [pX];refine td ?_;clear hS;go_wp2_with fail;go_meet;exact ⟨true,rfl,(fun _=>Sk HZA (by rw [HZR.out];exact HJ.out) (by rw [HZR.out];exact HNO.out) (.inr ⟨y,by rw [HZR.out];exact HY.out,HYU⟩)),(fun e=>by cases e),HBK.out.drew⟩
        have HNE:Hid (∀ y,rs[j]?=some y→y.want.copy≠u.copy):=fun z hz=>by rw [HY.out] at hz;cases hz;exact hyu
        have hev:(y.want.copy.toList == u.copy.toList)=false:=Lg hyu;refine wp_region_held_drew (S:=fun wy=>wy=wk.drew) (by kernel_rfl) rfl (fun hS=>?_);refine tz 0 117 (.slice (some ⟨g,0,none⟩) rs.length q) rfl hS ?_;simp only [pX];refine tz 1 118 (.int .i64 rs.length) rfl hS ?_;simp only [pX];refine ty 2 ⟨some 119,_,_,_,_,none⟩ (.bool false) rfl (by rfl) ?_ hS ?_
        ·intro wy hy
         clear hy
         (first | (go_simp;done) | (go_simp;omega) | (go_simp;simp;omega))
        simp only [pX];refine tz 3 120 (.bool false) rfl hS ?_;simp only [pX];refine tz 4 121 (.int .i64 j) rfl hS ?_;simp only [pX];refine tz 5 122 (.slice (some ⟨g,0,none⟩) rs.length q) rfl hS ?_;simp only [pX];refine tz 6 123 (.int .i64 rs.length) rfl hS ?_;simp only [pX];refine ty 7 ⟨some 124,_,_,_,_,some (3,false)⟩ (.bool true) rfl (by rfl) ?_ hS ?_
        ·intro wy hy
         clear hy
         (first | (go_simp;done) | (go_simp;omega) | (go_simp;simp;omega))
        simp only [pX];refine tz 8 125 (.bool true) rfl hS ?_;simp only [pX];refine tz 9 126 (.slice (some ⟨g,0,none⟩) rs.length q) rfl hS ?_;simp only [pX];refine tz 10 127 (.int .i64 j) rfl hS ?_;simp only [pX];refine x0 11 128 (.pointer (some ⟨g,j*11,none⟩)) rfl hS ?_;simp only [pX];refine tz 12 129 (.pointer (some ⟨g,j*11,none⟩)) rfl hS ?_;simp only [pX];refine tz 13 130 (.pointer (some ⟨g,j*11,none⟩)) rfl hS ?_;simp only [pX];refine tl 14 131 (.string y.want.copy) ⟨g,j*11,none⟩ rfl (fun wy hy=>by rw [hy];exact HCR.out _ HBK.out.drew j y HY) hS ?_;simp only [pX];refine tz 15 132 (.pointer (some ⟨gu,0,none⟩)) rfl hS ?_;simp only [pX];refine tl 16 133 (.string u.copy) ⟨gu,0,none⟩ rfl (fun wy hy=>by rw [hy];exact HUC.out _ HBK.out.drew) hS ?_;simp only [pX];refine ty 17 ⟨some 134,_,_,_,_,some (8,true)⟩ (.bool false) rfl (by rfl) ?_ hS ?_
        ·intro wy hy
         clear hy
         (first | (go_simp;done) | (go_simp;rw [hev];done) | (go_simp;simp [hev];done))
        simp only [pX];refine tz 18 135 (.bool false) rfl hS ?_;simp only [pX];refine tz 19 136 (.bool false) rfl hS ?_;simp only [pX];refine td ?_;clear hS;go_wp2_with fail;go_meet;exact ⟨false,rfl,(fun e=>by cases e),(fun _=>⟨by omega,by have h9:=Ot HZA (by rw [HZR.out];exact hj) (by rw [HZR.out];exact HJ.out) (by rw [HZR.out];exact HNO.out) (by rw [HZR.out];omega) (by rw [HZR.out];exact HNE.out);rw [HZR.out] at h9;exact h9⟩),HBK.out.drew⟩
       case rest =>
        obtain ⟨bv,rfl,HT,HF,HBL⟩:=hcut;clear HBK;generalize wc=wl at *
        cases bv with
        | true =>
         have HRS2:Hid (rs=(startTo L (k+1)).runs):=by show _=_;rw [HZS.out,HT.out rfl,HZR.out]
         have HS2:=iH (HSB.out.below HBL);have HR2:=iH (Ae HRB0 HBL);have hB2:=hBB.trans (HBL.out.mono hBB.size);clear HT HF;go_wp2_with fail;go_roundw
         case rel=>exact ⟨k+1,g,q,rs,by omega,by go_num,rfl,HRS2,HS2,HR2,hne,hB2⟩
         case measure=>simp [intOf];omega
        | false =>
         have hlt20:=(HF rfl).1;have HRS2:Hid (rs.take j++⟨u,1,u.pull,0,0⟩::rs.drop j=(startTo L (k+1)).runs):=by show _=_;rw [HZS.out,(HF rfl).2]
         clear HT HF;go_upto_region 23 with fail;obtain ⟨w1,hw1⟩:∃ w1,w1=wl.drew:=⟨_,rfl⟩;have hBl:Below wb.heap.size wb w1:=by rw [hw1];exact HBL.out.drew
         refine wp_region_held_drew (S:=fun wy=>Below w1.heap.size w1 wy) (by kernel_rfl) (by rw [hw1];exact Below.refl _ _) (fun hS=>?_);generalize wl.drew=wn at hS ⊢;clear hw1;have HUD:=qBk HUB hBl;have HRD:=iH (Ae HRB0 hBl);have HC1:Hid (∀ wy,Below w1.heap.size w1 wy→∀ t v,(Aq (rs.take j))[t]?=some v→wy.cell? ((⟨g,0,none⟩:Addr).add t)=some v):=fun wy hy t v h=>by rw [Addr.add_mid,Nat.zero_add,(Ae HRD hy).cellAt t (by have h8:=Ah (Pa rs j t h);rw [Cb] at h8;exact h8)];exact Pa rs j t h
         obtain ⟨rb,hrb,HC3⟩:∃ rb:Addr,(if q=j then some (⟨g,0,none⟩:Addr) else some ⟨g,j*11,none⟩)=some rb∧Hid (∀ wy,Below w1.heap.size w1 wy→∀ t v,(Aq (rs.drop j))[t]?=some v→wy.cell? ((rb:Addr).add t)=some v):=by
          split
          ·refine ⟨_,rfl,fun _ _ t v h=>?_⟩
           rw [List.drop_eq_nil_of_le (by omega)] at h;simp [Aq] at h
          ·refine ⟨_,rfl,fun wy hy t v h=>?_⟩
           rw [Wc] at h;rw [Addr.add_mid,(Ae HRD hy).cellAt (j*11+t) (by have h8:=Ah h;rw [Cb] at h8;exact h8)];exact h
         have hks:j≤1000:=by omega
         refine tz 1 138 (.slice (some ⟨g,0,none⟩) rs.length q) rfl hS ?_;simp only [pX];refine tz 2 139 (.int .i64 j) rfl hS ?_;simp only [pX];refine x0 3 140 (.slice (some ⟨g,0,none⟩) j q) rfl hS ?_;simp only [pX];refine tk 5 ⟨some 142,_,_,_,_,none⟩ (.agg (wwA u)) rfl (yieldsIf_load_mid (by rfl) _ _ rfl gu (0) rfl (wwL u) _ (fun _ h=>(HUD.out.below h HUD.out.lt).rangeA) Tryz.underlying86 rfl Au) hS ?_;simp only [pX];refine tz 6 143 (.pointer (some ⟨gu,3,none⟩)) rfl hS ?_;simp only [pX];refine ty 7 ⟨some 144,_,_,_,_,none⟩ (.int .i64 u.pull) rfl (by rfl) ?_ hS ?_
         ·intro wy hy
          have h0:=(HUD.out.below hy HUD.out.lt).cell (o:=3) rfl;clear hy;go_simp
         simp only [pX];refine tz 8 145 (.agg #[.string u.copy,.int .i64 u.version,.string u.hold,.int .i64 u.pull,.int .i64 u.start,.int .i64 u.dies,.int .i64 u.grace,.int .i64 1,.int .i64 u.pull,.int .i64 0,.int .i64 0]) rfl hS ?_;simp only [pX];refine tz 11 148 (.slice (some ⟨g,0,none⟩) rs.length q) rfl hS ?_;simp only [pX];refine tz 12 149 (.int .i64 j) rfl hS ?_;simp only [pX];refine ty 13 ⟨some 150,_,_,_,_,none⟩ (.slice (some rb) (rs.length - j) (q - j)) rfl (by rfl) ?_ hS ?_
         ·intro wy hy
          clear hy
          (rw [← hrb];go_simp;try omega)
         simp only [pX];clear hrb;obtain ⟨md,hmd⟩:∃ md,md=rs.length - j:=⟨_,rfl⟩;obtain ⟨cd,hcd⟩:∃ cd,cd=q - j:=⟨_,rfl⟩;rw [← hmd,← hcd];have HMD:=iH hmd;have hmd2:md≤20:=by omega
         have hmj:j+md=rs.length:=by omega
         clear hmd hcd;have HMJ:=iH hmj;clear hmj;refine wpAnyH_ready (rs:=[0,9]) (by kernel_rfl) (by simp) (AllReadyH.cons (o:=⟨some 137,_,_,_,_,none⟩) rfl (fun KK hKK=>?_) (AllReadyH.cons (o:=⟨some 146,_,_,_,_,none⟩) rfl (fun KK hKK=>?_) AllReadyH.nil))
         ·skip
          go_simp;have hal:=(Below.refl _ wn).alloc nL (Obj.cells #[] 88);have HR:Hid ((wn.alloc (Obj.cells #[] 88)).ownsRow w1.heap.size 88 11 (.slice (some ⟨wn.heap.size,0,none⟩) 0 0) 0 []):=World.ownsRow_made wn #[] 0 hS.size (zL) rfl;refine hKK.out _ _ (qTr hS hal) (fun hS=>?_);clear hKK KK hal;generalize wn.alloc (Obj.cells #[] 88)=wm at *;generalize wn.heap.size=g1 at *;generalize wm=wn at *;refine wpAnyH_ready (rs:=[4,9]) (by kernel_rfl) (by simp) (AllReadyH.cons (o:=⟨some 141,_,_,_,_,none⟩) rfl (fun KK hKK=>?_) (AllReadyH.cons (o:=⟨some 146,_,_,_,_,none⟩) rfl (fun KK hKK=>?_) AllReadyH.nil))
          ·skip
           have HNN:Hid (∀ t u,(Aq (rs.take j))[t]?=some u→wn.cell? ((⟨g,0,none⟩:Addr).add t)=some u):=HC1.out wn hS;have hgj:=(HR.out.lt g1 rfl).1;rw [if_pos (by rfl)];refine Ay (.tmp 137) (.tmp 140) 29 (by rfl) w1.heap.size 88 i0 _ 11 104 Tryz.underlying29 HI0 hz0 hz1 hz2 rfl (by decide) _ 0 _ (by rfl) HR ⟨g,0,none⟩ j q (Aq (rs.take j)) (by rfl) (by rw [Cb];simp;omega) HNN (Ca _) (by unfold maxLen;omega) (by omega) hS.size ?_;intro v' wq hown hgrow hnil hblk;have hv:v'≠.slice none 0 0:=(fun e=>by have h9:=(hnil.1 e).1;cases h9);rw [Nat.zero_add,List.nil_append] at hown;obtain ⟨e1,f1,rfl⟩:=Co hown hv;have hgr:wn.grownBy wq (some g1):=hgrow;have hbe:e1=g1∨e1=wn.heap.size:=by
            rcases hblk with h9 | h9
            ·exact .inl (Option.some.inj h9)
            ·exact .inr (Option.some.inj h9)
           replace HR:=iH hown;have hS2:Below w1.heap.size w1 wq:=hS.grown hgr hS.size (fun t e=>by cases e;exact hgj);refine hKK.out _ _ hS2 (fun hS=>?_);clear hKK KK hown hgrow hnil hblk hv hgr hbe hgj HNN hS2;generalize wq=wn at *;refine rd1 9 ⟨some 146,_,_,_,_,none⟩ rfl (fun KK hKK=>?_);go_simp;have hal:=(Below.refl _ wn).alloc nL (Obj.cells #[.string u.copy,.int .i64 u.version,.string u.hold,.int .i64 u.pull,.int .i64 u.start,.int .i64 u.dies,.int .i64 u.grace,.int .i64 1,.int .i64 u.pull,.int .i64 0,.int .i64 0] 88);have HK2:=iH (Blk.alloc wn #[.string u.copy,.int .i64 u.version,.string u.hold,.int .i64 u.pull,.int .i64 u.start,.int .i64 u.dies,.int .i64 u.grace,.int .i64 1,.int .i64 u.pull,.int .i64 0,.int .i64 0] 88);have hn2:wn.heap.size≠e1:=by have h9:=(HR.out.lt e1 rfl).2;omega
           replace HR:=iH (HR.out.alloc (Obj.cells #[.string u.copy,.int .i64 u.version,.string u.hold,.int .i64 u.pull,.int .i64 u.start,.int .i64 u.dies,.int .i64 u.grace,.int .i64 1,.int .i64 u.pull,.int .i64 0,.int .i64 0] 88));refine hKK.out _ _ (qTr hS hal) (fun hS=>?_);clear hKK KK hal;generalize wn.alloc (Obj.cells #[.string u.copy,.int .i64 u.version,.string u.hold,.int .i64 u.pull,.int .i64 u.start,.int .i64 u.dies,.int .i64 u.grace,.int .i64 1,.int .i64 u.pull,.int .i64 0,.int .i64 0] 88)=wm at *;generalize wn.heap.size=g2 at *;generalize wm=wn at *;refine rd1 10 ⟨some 147,_,_,_,_,none⟩ rfl (fun KK hKK=>?_);have HNN:Hid (∀ t vv,(Dv ⟨u,1,u.pull,0,0⟩)[t]?=some vv→wn.cell? ((⟨g2,0,none⟩:Addr).add t)=some vv):=fun t vv hu=>by rw [Addr.add_mid];exact HK2.out.rangeA t vv hu
           have hgj:=(HR.out.lt e1 rfl).1;rw [if_pos (by rfl)];refine Ay (.tmp 141) (.tmp 146) 29 (by rfl) w1.heap.size 88 i0 _ 11 104 Tryz.underlying29 HI0 hz0 hz1 hz2 rfl (by decide) _ j _ (by rfl) HR ⟨g2,0,none⟩ 1 1 (Dv ⟨u,1,u.pull,0,0⟩) (by rfl) rfl HNN (fun vv hu=>Ca [⟨u,1,u.pull,0,0⟩] vv (by simp only [Aq,List.append_nil];exact hu)) (by unfold maxLen;omega) (by omega) hS.size ?_;intro v' wq hown hgrow hnil hblk;have hv:v'≠.slice none 0 0:=(fun e=>by have h9:=(hnil.1 e).1;cases h9);skip;obtain ⟨e2,f2,rfl⟩:=Co hown hv;have hgr:wn.grownBy wq (some e1):=hgrow;have hbe:e2=e1∨e2=wn.heap.size:=by
            rcases hblk with h9 | h9
            ·exact .inl (Option.some.inj h9)
            ·exact .inr (Option.some.inj h9)
           replace HR:=iH hown;have hS2:Below w1.heap.size w1 wq:=hS.grown hgr hS.size (fun t e=>by cases e;exact hgj);refine hKK.out _ _ hS2 (fun hS=>?_);clear hKK KK hown hgrow hnil hblk hv hgr hbe hgj HNN hS2;generalize wq=wn at *;refine rd1 14 ⟨some 151,_,_,_,_,none⟩ rfl (fun KK hKK=>?_);have HNN:Hid (∀ t u,(Aq (rs.drop j))[t]?=some u→wn.cell? ((rb:Addr).add t)=some u):=HC3.out wn hS;have hgj:=(HR.out.lt e2 rfl).1;rw [if_pos (by rfl)];refine Ay (.tmp 147) (.tmp 150) 29 (by rfl) w1.heap.size 88 i0 _ 11 104 Tryz.underlying29 HI0 hz0 hz1 hz2 rfl (by decide) _ (j+1) _ (by rfl) HR rb md cd (Aq (rs.drop j)) (by rfl) (by rw [Cb,List.length_drop,← HMD.out]) HNN (Ca _) (by unfold maxLen;omega) (by omega) hS.size ?_;intro v' wq hown hgrow hnil hblk;have hv:v'≠.slice none 0 0:=(fun e=>by have h9:=(hnil.1 e).1;cases h9);skip;obtain ⟨e3,f3,rfl⟩:=Co hown hv;have hgr:wn.grownBy wq (some e2):=hgrow;have hbe:e3=e2∨e3=wn.heap.size:=by
            rcases hblk with h9 | h9
            ·exact .inl (Option.some.inj h9)
            ·exact .inr (Option.some.inj h9)
           replace HR:=iH hown;have hS2:Below w1.heap.size w1 wq:=hS.grown hgr hS.size (fun t e=>by cases e;exact hgj);refine hKK.out _ _ hS2 (fun hS=>?_);clear hKK KK hown hgrow hnil hblk hv hgr hbe hgj HNN hS2;generalize wq=wn at *;have HLN:Hid ((rs.take j++⟨u,1,u.pull,0,0⟩::rs.drop j).length=j+1+md):=by show _=_;rw [List.length_append,List.length_take,List.length_cons,List.length_drop];have:=HMJ.out;omega
           have hw1b:w.heap.size+2≤w1.heap.size:=by have h8:=HSB.out.hZ.lt;have h7:=hBl.size;omega
           have HR9:Hid (wn.ownsRow (w.heap.size+2) 88 11 (.slice (some ⟨e3,0,none⟩) (rs.take j++⟨u,1,u.pull,0,0⟩::rs.drop j).length f3) (rs.take j++⟨u,1,u.pull,0,0⟩::rs.drop j).length (Aq (rs.take j++⟨u,1,u.pull,0,0⟩::rs.drop j))):=by
            show World.ownsRow _ _ _ _ _ _ _
            have h9:=ownsRow_base_a HR hw1b;rw [HLN.out,Fh,show Aq (⟨u,1,u.pull,0,0⟩::rs.drop j)=Dv ⟨u,1,u.pull,0,0⟩++Aq (rs.drop j) from rfl,← List.append_assoc];exact h9
           have he3:=(HR.out.lt e3 rfl).1;have hBn:=qTr hBl hS;have HS9:=iH (HSB.out.below hBn);have hB9:=qTr hBB hBn;have hn9:e3≠b7∧e3≠b8:=by have h1:=HSB.out.b7l;have h2:=HSB.out.b8l;have h3:=hBl.size;omega
           refine tz 15 3 (.slice (some ⟨e3,0,none⟩) (j+1+md) f3) rfl hS ?_;simp only [pX];refine td ?_;clear hS HR;go_wp2_with fail;go_roundw
           case rel=>exact ⟨k+1,e3,f3,rs.take j++⟨u,1,u.pull,0,0⟩::rs.drop j,by omega,by go_num,by rw [HLN.out],HRS2,HS9,HR9,hn9,hB9⟩
           case measure=>simp [intOf];omega
          ·skip
           go_simp;have hal:=(Below.refl _ wn).alloc nL (Obj.cells #[.string u.copy,.int .i64 u.version,.string u.hold,.int .i64 u.pull,.int .i64 u.start,.int .i64 u.dies,.int .i64 u.grace,.int .i64 1,.int .i64 u.pull,.int .i64 0,.int .i64 0] 88);have HK2:=iH (Blk.alloc wn #[.string u.copy,.int .i64 u.version,.string u.hold,.int .i64 u.pull,.int .i64 u.start,.int .i64 u.dies,.int .i64 u.grace,.int .i64 1,.int .i64 u.pull,.int .i64 0,.int .i64 0] 88);have hn2:wn.heap.size≠g1:=by have h9:=(HR.out.lt g1 rfl).2;omega
           replace HR:=iH (HR.out.alloc (Obj.cells #[.string u.copy,.int .i64 u.version,.string u.hold,.int .i64 u.pull,.int .i64 u.start,.int .i64 u.dies,.int .i64 u.grace,.int .i64 1,.int .i64 u.pull,.int .i64 0,.int .i64 0] 88));refine hKK.out _ _ (qTr hS hal) (fun hS=>?_);clear hKK KK hal;generalize wn.alloc (Obj.cells #[.string u.copy,.int .i64 u.version,.string u.hold,.int .i64 u.pull,.int .i64 u.start,.int .i64 u.dies,.int .i64 u.grace,.int .i64 1,.int .i64 u.pull,.int .i64 0,.int .i64 0] 88)=wm at *;generalize wn.heap.size=g2 at *;generalize wm=wn at *;refine rd1 4 ⟨some 141,_,_,_,_,none⟩ rfl (fun KK hKK=>?_);have HNN:Hid (∀ t u,(Aq (rs.take j))[t]?=some u→wn.cell? ((⟨g,0,none⟩:Addr).add t)=some u):=HC1.out wn hS;have hgj:=(HR.out.lt g1 rfl).1;rw [if_pos (by rfl)];refine Ay (.tmp 137) (.tmp 140) 29 (by rfl) w1.heap.size 88 i0 _ 11 104 Tryz.underlying29 HI0 hz0 hz1 hz2 rfl (by decide) _ 0 _ (by rfl) HR ⟨g,0,none⟩ j q (Aq (rs.take j)) (by rfl) (by rw [Cb];simp;omega) HNN (Ca _) (by unfold maxLen;omega) (by omega) hS.size ?_;intro v' wq hown hgrow hnil hblk;have hv:v'≠.slice none 0 0:=(fun e=>by have h9:=(hnil.1 e).1;cases h9);rw [Nat.zero_add,List.nil_append] at hown;obtain ⟨e1,f1,rfl⟩:=Co hown hv;have hgr:wn.grownBy wq (some g1):=hgrow;have hbe:e1=g1∨e1=wn.heap.size:=by
            rcases hblk with h9 | h9
            ·exact .inl (Option.some.inj h9)
            ·exact .inr (Option.some.inj h9)
           have hn4:e1≠g2:=by have h9:=HK2.out.lt;omega
           replace HK2:=iH (Bl HK2 hgr (by omega));replace HR:=iH hown;have hS2:Below w1.heap.size w1 wq:=hS.grown hgr hS.size (fun t e=>by cases e;exact hgj);refine hKK.out _ _ hS2 (fun hS=>?_);clear hKK KK hown hgrow hnil hblk hv hgr hbe hgj HNN hS2;generalize wq=wn at *;refine rd1 10 ⟨some 147,_,_,_,_,none⟩ rfl (fun KK hKK=>?_);have HNN:Hid (∀ t vv,(Dv ⟨u,1,u.pull,0,0⟩)[t]?=some vv→wn.cell? ((⟨g2,0,none⟩:Addr).add t)=some vv):=fun t vv hu=>by rw [Addr.add_mid];exact HK2.out.rangeA t vv hu
           have hgj:=(HR.out.lt e1 rfl).1;rw [if_pos (by rfl)];refine Ay (.tmp 141) (.tmp 146) 29 (by rfl) w1.heap.size 88 i0 _ 11 104 Tryz.underlying29 HI0 hz0 hz1 hz2 rfl (by decide) _ j _ (by rfl) HR ⟨g2,0,none⟩ 1 1 (Dv ⟨u,1,u.pull,0,0⟩) (by rfl) rfl HNN (fun vv hu=>Ca [⟨u,1,u.pull,0,0⟩] vv (by simp only [Aq,List.append_nil];exact hu)) (by unfold maxLen;omega) (by omega) hS.size ?_;intro v' wq hown hgrow hnil hblk;have hv:v'≠.slice none 0 0:=(fun e=>by have h9:=(hnil.1 e).1;cases h9);skip;obtain ⟨e2,f2,rfl⟩:=Co hown hv;have hgr:wn.grownBy wq (some e1):=hgrow;have hbe:e2=e1∨e2=wn.heap.size:=by
            rcases hblk with h9 | h9
            ·exact .inl (Option.some.inj h9)
            ·exact .inr (Option.some.inj h9)
           replace HR:=iH hown;have hS2:Below w1.heap.size w1 wq:=hS.grown hgr hS.size (fun t e=>by cases e;exact hgj);refine hKK.out _ _ hS2 (fun hS=>?_);clear hKK KK hown hgrow hnil hblk hv hgr hbe hgj HNN hS2;generalize wq=wn at *;refine rd1 14 ⟨some 151,_,_,_,_,none⟩ rfl (fun KK hKK=>?_);have HNN:Hid (∀ t u,(Aq (rs.drop j))[t]?=some u→wn.cell? ((rb:Addr).add t)=some u):=HC3.out wn hS;have hgj:=(HR.out.lt e2 rfl).1;rw [if_pos (by rfl)];refine Ay (.tmp 147) (.tmp 150) 29 (by rfl) w1.heap.size 88 i0 _ 11 104 Tryz.underlying29 HI0 hz0 hz1 hz2 rfl (by decide) _ (j+1) _ (by rfl) HR rb md cd (Aq (rs.drop j)) (by rfl) (by rw [Cb,List.length_drop,← HMD.out]) HNN (Ca _) (by unfold maxLen;omega) (by omega) hS.size ?_;intro v' wq hown hgrow hnil hblk;have hv:v'≠.slice none 0 0:=(fun e=>by have h9:=(hnil.1 e).1;cases h9);skip;obtain ⟨e3,f3,rfl⟩:=Co hown hv;have hgr:wn.grownBy wq (some e2):=hgrow;have hbe:e3=e2∨e3=wn.heap.size:=by
            rcases hblk with h9 | h9
            ·exact .inl (Option.some.inj h9)
            ·exact .inr (Option.some.inj h9)
           replace HR:=iH hown;have hS2:Below w1.heap.size w1 wq:=hS.grown hgr hS.size (fun t e=>by cases e;exact hgj);refine hKK.out _ _ hS2 (fun hS=>?_);clear hKK KK hown hgrow hnil hblk hv hgr hbe hgj HNN hS2;generalize wq=wn at *;have HLN:Hid ((rs.take j++⟨u,1,u.pull,0,0⟩::rs.drop j).length=j+1+md):=by show _=_;rw [List.length_append,List.length_take,List.length_cons,List.length_drop];have:=HMJ.out;omega
           have hw1b:w.heap.size+2≤w1.heap.size:=by have h8:=HSB.out.hZ.lt;have h7:=hBl.size;omega
           have HR9:Hid (wn.ownsRow (w.heap.size+2) 88 11 (.slice (some ⟨e3,0,none⟩) (rs.take j++⟨u,1,u.pull,0,0⟩::rs.drop j).length f3) (rs.take j++⟨u,1,u.pull,0,0⟩::rs.drop j).length (Aq (rs.take j++⟨u,1,u.pull,0,0⟩::rs.drop j))):=by
            show World.ownsRow _ _ _ _ _ _ _
            have h9:=ownsRow_base_a HR hw1b;rw [HLN.out,Fh,show Aq (⟨u,1,u.pull,0,0⟩::rs.drop j)=Dv ⟨u,1,u.pull,0,0⟩++Aq (rs.drop j) from rfl,← List.append_assoc];exact h9
           have he3:=(HR.out.lt e3 rfl).1;have hBn:=qTr hBl hS;have HS9:=iH (HSB.out.below hBn);have hB9:=qTr hBB hBn;have hn9:e3≠b7∧e3≠b8:=by have h1:=HSB.out.b7l;have h2:=HSB.out.b8l;have h3:=hBl.size;omega
           refine tz 15 3 (.slice (some ⟨e3,0,none⟩) (j+1+md) f3) rfl hS ?_;simp only [pX];refine td ?_;clear hS HR;go_wp2_with fail;go_roundw
           case rel=>exact ⟨k+1,e3,f3,rs.take j++⟨u,1,u.pull,0,0⟩::rs.drop j,by omega,by go_num,by rw [HLN.out],HRS2,HS9,HR9,hn9,hB9⟩
           case measure=>simp [intOf];omega
         ·skip
          go_simp;have hal:=(Below.refl _ wn).alloc nL (Obj.cells #[.string u.copy,.int .i64 u.version,.string u.hold,.int .i64 u.pull,.int .i64 u.start,.int .i64 u.dies,.int .i64 u.grace,.int .i64 1,.int .i64 u.pull,.int .i64 0,.int .i64 0] 88);have HK2:=iH (Blk.alloc wn #[.string u.copy,.int .i64 u.version,.string u.hold,.int .i64 u.pull,.int .i64 u.start,.int .i64 u.dies,.int .i64 u.grace,.int .i64 1,.int .i64 u.pull,.int .i64 0,.int .i64 0] 88);refine hKK.out _ _ (qTr hS hal) (fun hS=>?_);clear hKK KK hal;generalize wn.alloc (Obj.cells #[.string u.copy,.int .i64 u.version,.string u.hold,.int .i64 u.pull,.int .i64 u.start,.int .i64 u.dies,.int .i64 u.grace,.int .i64 1,.int .i64 u.pull,.int .i64 0,.int .i64 0] 88)=wm at *;generalize wn.heap.size=g2 at *;generalize wm=wn at *;refine rd1 0 ⟨some 137,_,_,_,_,none⟩ rfl (fun KK hKK=>?_);go_simp;have hal:=(Below.refl _ wn).alloc nL (Obj.cells #[] 88);have HR:Hid ((wn.alloc (Obj.cells #[] 88)).ownsRow w1.heap.size 88 11 (.slice (some ⟨wn.heap.size,0,none⟩) 0 0) 0 []):=World.ownsRow_made wn #[] 0 hS.size (zL) rfl;have hn2:g2≠wn.heap.size:=by have h9:=HK2.out.lt;omega
          replace HK2:=qBk HK2 hal;refine hKK.out _ _ (qTr hS hal) (fun hS=>?_);clear hKK KK hal;generalize wn.alloc (Obj.cells #[] 88)=wm at *;generalize wn.heap.size=g1 at *;generalize wm=wn at *;refine rd1 4 ⟨some 141,_,_,_,_,none⟩ rfl (fun KK hKK=>?_);have HNN:Hid (∀ t u,(Aq (rs.take j))[t]?=some u→wn.cell? ((⟨g,0,none⟩:Addr).add t)=some u):=HC1.out wn hS;have hgj:=(HR.out.lt g1 rfl).1;rw [if_pos (by rfl)];refine Ay (.tmp 137) (.tmp 140) 29 (by rfl) w1.heap.size 88 i0 _ 11 104 Tryz.underlying29 HI0 hz0 hz1 hz2 rfl (by decide) _ 0 _ (by rfl) HR ⟨g,0,none⟩ j q (Aq (rs.take j)) (by rfl) (by rw [Cb];simp;omega) HNN (Ca _) (by unfold maxLen;omega) (by omega) hS.size ?_;intro v' wq hown hgrow hnil hblk;have hv:v'≠.slice none 0 0:=(fun e=>by have h9:=(hnil.1 e).1;cases h9);rw [Nat.zero_add,List.nil_append] at hown;obtain ⟨e1,f1,rfl⟩:=Co hown hv;have hgr:wn.grownBy wq (some g1):=hgrow;have hbe:e1=g1∨e1=wn.heap.size:=by
           rcases hblk with h9 | h9
           ·exact .inl (Option.some.inj h9)
           ·exact .inr (Option.some.inj h9)
          have hn4:e1≠g2:=by have h9:=HK2.out.lt;omega
          replace HK2:=iH (Bl HK2 hgr (by omega));replace HR:=iH hown;have hS2:Below w1.heap.size w1 wq:=hS.grown hgr hS.size (fun t e=>by cases e;exact hgj);refine hKK.out _ _ hS2 (fun hS=>?_);clear hKK KK hown hgrow hnil hblk hv hgr hbe hgj HNN hS2;generalize wq=wn at *;refine rd1 10 ⟨some 147,_,_,_,_,none⟩ rfl (fun KK hKK=>?_);have HNN:Hid (∀ t vv,(Dv ⟨u,1,u.pull,0,0⟩)[t]?=some vv→wn.cell? ((⟨g2,0,none⟩:Addr).add t)=some vv):=fun t vv hu=>by rw [Addr.add_mid];exact HK2.out.rangeA t vv hu
          have hgj:=(HR.out.lt e1 rfl).1;rw [if_pos (by rfl)];refine Ay (.tmp 141) (.tmp 146) 29 (by rfl) w1.heap.size 88 i0 _ 11 104 Tryz.underlying29 HI0 hz0 hz1 hz2 rfl (by decide) _ j _ (by rfl) HR ⟨g2,0,none⟩ 1 1 (Dv ⟨u,1,u.pull,0,0⟩) (by rfl) rfl HNN (fun vv hu=>Ca [⟨u,1,u.pull,0,0⟩] vv (by simp only [Aq,List.append_nil];exact hu)) (by unfold maxLen;omega) (by omega) hS.size ?_;intro v' wq hown hgrow hnil hblk;have hv:v'≠.slice none 0 0:=(fun e=>by have h9:=(hnil.1 e).1;cases h9);skip;obtain ⟨e2,f2,rfl⟩:=Co hown hv;have hgr:wn.grownBy wq (some e1):=hgrow;have hbe:e2=e1∨e2=wn.heap.size:=by
           rcases hblk with h9 | h9
           ·exact .inl (Option.some.inj h9)
           ·exact .inr (Option.some.inj h9)
          replace HR:=iH hown;have hS2:Below w1.heap.size w1 wq:=hS.grown hgr hS.size (fun t e=>by cases e;exact hgj);refine hKK.out _ _ hS2 (fun hS=>?_);clear hKK KK hown hgrow hnil hblk hv hgr hbe hgj HNN hS2;generalize wq=wn at *;refine rd1 14 ⟨some 151,_,_,_,_,none⟩ rfl (fun KK hKK=>?_);have HNN:Hid (∀ t u,(Aq (rs.drop j))[t]?=some u→wn.cell? ((rb:Addr).add t)=some u):=HC3.out wn hS;have hgj:=(HR.out.lt e2 rfl).1;rw [if_pos (by rfl)];refine Ay (.tmp 147) (.tmp 150) 29 (by rfl) w1.heap.size 88 i0 _ 11 104 Tryz.underlying29 HI0 hz0 hz1 hz2 rfl (by decide) _ (j+1) _ (by rfl) HR rb md cd (Aq (rs.drop j)) (by rfl) (by rw [Cb,List.length_drop,← HMD.out]) HNN (Ca _) (by unfold maxLen;omega) (by omega) hS.size ?_;intro v' wq hown hgrow hnil hblk;have hv:v'≠.slice none 0 0:=(fun e=>by have h9:=(hnil.1 e).1;cases h9);skip;obtain ⟨e3,f3,rfl⟩:=Co hown hv;have hgr:wn.grownBy wq (some e2):=hgrow;have hbe:e3=e2∨e3=wn.heap.size:=by
           rcases hblk with h9 | h9
           ·exact .inl (Option.some.inj h9)
           ·exact .inr (Option.some.inj h9)
          replace HR:=iH hown;have hS2:Below w1.heap.size w1 wq:=hS.grown hgr hS.size (fun t e=>by cases e;exact hgj);refine hKK.out _ _ hS2 (fun hS=>?_);clear hKK KK hown hgrow hnil hblk hv hgr hbe hgj HNN hS2;generalize wq=wn at *;have HLN:Hid ((rs.take j++⟨u,1,u.pull,0,0⟩::rs.drop j).length=j+1+md):=by show _=_;rw [List.length_append,List.length_take,List.length_cons,List.length_drop];have:=HMJ.out;omega
          have hw1b:w.heap.size+2≤w1.heap.size:=by have h8:=HSB.out.hZ.lt;have h7:=hBl.size;omega
          have HR9:Hid (wn.ownsRow (w.heap.size+2) 88 11 (.slice (some ⟨e3,0,none⟩) (rs.take j++⟨u,1,u.pull,0,0⟩::rs.drop j).length f3) (rs.take j++⟨u,1,u.pull,0,0⟩::rs.drop j).length (Aq (rs.take j++⟨u,1,u.pull,0,0⟩::rs.drop j))):=by
           show World.ownsRow _ _ _ _ _ _ _
           have h9:=ownsRow_base_a HR hw1b;rw [HLN.out,Fh,show Aq (⟨u,1,u.pull,0,0⟩::rs.drop j)=Dv ⟨u,1,u.pull,0,0⟩++Aq (rs.drop j) from rfl,← List.append_assoc];exact h9
          have he3:=(HR.out.lt e3 rfl).1;have hBn:=qTr hBl hS;have HS9:=iH (HSB.out.below hBn);have hB9:=qTr hBB hBn;have hn9:e3≠b7∧e3≠b8:=by have h1:=HSB.out.b7l;have h2:=HSB.out.b8l;have h3:=hBl.size;omega
          refine tz 15 3 (.slice (some ⟨e3,0,none⟩) (j+1+md) f3) rfl hS ?_;simp only [pX];refine td ?_;clear hS HR;go_wp2_with fail;go_roundw
          case rel=>exact ⟨k+1,e3,f3,rs.take j++⟨u,1,u.pull,0,0⟩::rs.drop j,by omega,by go_num,by rw [HLN.out],HRS2,HS9,HR9,hn9,hB9⟩
          case measure=>simp [intOf];omega
  obtain ⟨rn,hx⟩:=gXe hlt;have hxz:=HOK.out.z6 rn (List.mem_of_getElem? hx);obtain ⟨b6,o6,rfl,_,hbl,hc0⟩:=HI.out.s6.at hx;have HRC:=iH hc0;have HRX:=iH hx;have HRG:Hid (∀ wy,Below w.heap.size w wy→wy.rangeAt b6 (o6+k*11) (rrL rn)):=fun wy hy=>by obtain ⟨b1,o1,e1,_,_,h1⟩:=(HI.out.below hy nL).s6.at HRX;cases e1;exact Bc h1
  obtain ⟨z,hz⟩:∃ z,z=liveTo x k:=⟨_,rfl⟩;rw [← hz] at HSI;have HZQ:=iH hz;have HZO:Hid (TOk z):=by show TOk _;rw [hz];exact HOK.out.liveTo k
  have HLV:Hid (lvX z rn=lvX x rn):=by show _=_;rw [hz];exact Ly (Da _ _ _).1 (Da _ _ _).2.1 rn
  clear hz hx hc0 hbl;have kc6:wr.cell? ⟨w.heap.size,6,none⟩=some (.slice (some ⟨b6,o6,none⟩) x.runs.length c6):=HSI.out.hX.cell rfl;go_upto_region 5 with fail;clear kc6
  go_cut [5,6] (fun v b wz=>∃ (ga:Nat) (u:Wnt) (wt:Bool),v=.pointer (some ⟨ga,0,none⟩)∧b=.bool wt∧Hid (WantR x.wants rn.want.copy u wt)∧Hid (Blk ga (wwA u) 86 wz)∧Hid (Below wr.drew.heap.size wr.drew wz))
  case first =>
   obtain ⟨w1,hw1⟩:∃ w1,w1=wr.drew:=⟨_,rfl⟩;have HSd:Hid (SI x z w.heap.size a5 c5 (some ⟨b6,o6,none⟩) x.runs.length c6 b7 q7 b8 q8 w1):=by show SI _ _ _ _ _ _ _ _ _ _ _ _ _;rw [hw1];exact HSI.out.below (Below.refl _ _).drew
   have hBd:Below w.heap.size w w1:=by rw [hw1];exact hB.drew
   refine wp_region_held_drew (S:=fun wy=>Below w1.heap.size w1 wy) (by kernel_rfl) (by rw [hw1];exact Below.refl _ _) (fun hS=>?_);have HW1:=iH hw1;clear hw1;generalize wr.drew=wn at hS ⊢;refine tz 0 23 (.pointer (some ⟨w.heap.size,5,none⟩)) rfl hS ?_;simp only [pX];refine ty 1 ⟨some 24,_,_,_,_,none⟩ (.slice a5 x.wants.length c5) rfl (by rfl) ?_ hS ?_
   ·intro wy hy
    have h0:=(HSd.out.hX.below hy HSd.out.hX.lt).cell (o:=5) rfl;clear hy;go_simp
   simp only [pX];refine tz 2 25 (.pointer (some ⟨w.heap.size,6,none⟩)) rfl hS ?_;simp only [pX];refine ty 3 ⟨some 26,_,_,_,_,none⟩ (.slice (some ⟨b6,o6,none⟩) x.runs.length c6) rfl (by rfl) ?_ hS ?_
   ·intro wy hy
    have h0:=(HSd.out.hX.below hy HSd.out.hX.lt).cell (o:=6) rfl;clear hy;go_simp
   simp only [pX];refine tz 4 27 (.int .i64 k) rfl hS ?_;simp only [pX];refine x0 5 28 (.pointer (some ⟨b6,o6+k*11,none⟩)) rfl hS ?_;simp only [pX];refine tz 6 29 (.pointer (some ⟨b6,o6+k*11,none⟩)) rfl hS ?_;simp only [pX];refine tz 7 30 (.pointer (some ⟨b6,o6+k*11,none⟩)) rfl hS ?_;simp only [pX];refine tl 8 31 (.string rn.want.copy) ⟨b6,o6+k*11,none⟩ rfl (fun wy hy=>by simpa using (HRG wy (qTr hBd hy)) 0 _ rfl) hS ?_;simp only [pX];refine wpAnyH_ready (rs:=[9,13]) (by kernel_rfl) (by simp) (AllReadyH.cons (o:=⟨some 32,_,_,_,_,none⟩) rfl (fun KK hKK=>?_) (AllReadyH.cons (o:=⟨some 5,_,_,_,_,none⟩) rfl (fun KK hKK=>?_) AllReadyH.nil))
   ·skip
    go_simp;refine (Gg rn.want.copy x.wants a5 c5 lo wn ((HI.out.below (qTr hBd hS) nL).s5) (by omega)).mono ?_;rintro e wk ⟨u,wt,hu,rfl,hb⟩;refine hKK.out _ _ (qTr hS hb) (fun hS=>?_);clear hKK KK hb;generalize wk=wn at *;refine tz 10 22 (.tuple #[.agg (wwA u),.bool wt]) rfl hS ?_;simp only [pX];refine tz 11 33 (.agg (wwA u)) rfl hS ?_;simp only [pX];refine tz 12 34 (.bool wt) rfl hS ?_;simp only [pX];refine rd1 13 ⟨some 5,_,_,_,_,none⟩ rfl (fun KK hKK=>?_);go_simp;have HG:=iH (Blk.alloc wn WwA 86);have hba:=(Below.refl _ wn).alloc nL (Obj.cells WwA 86);have hg1:=hS.size;refine hKK.out _ _ (qTr hS hba) (fun hS=>?_);clear hKK KK hba;generalize wn.alloc (Obj.cells WwA 86)=wm at *;generalize wn.heap.size=ga at *;generalize wm=wn at *;refine rd1 14 ⟨none,_,_,_,_,none⟩ rfl (fun KK hKK=>?_);rw [if_pos (by rfl)];refine wp_store_mid 86 (.tmp 5) (.tmp 33) (by rfl) ga 0 (wwA u) (by rfl) (by rfl) HG.out.there Au (by simp [Value.oneCell']) ?_;have hS2:Below w1.heap.size w1 (wn.setCells ga 0 (wwL u)):=Aa hg1 _ _ _ hS;replace HG:=iH (HG.out.setAll (wwA u) rfl);refine hKK.out _ _ hS2 (fun hS=>?_);clear hKK KK hS2;generalize wn.setCells ga 0 _=wf at *;refine tz 15 6 (.bool wt) rfl hS ?_;simp only [pX];refine td ?_;have HS:=iH hS;clear hS;go_wp2_with fail;go_meet;exact ⟨ga,u,wt,rfl,rfl,hu,HG,(by show Below _ _ _;rw [← HW1.out];exact HS.out)⟩
   ·skip
    go_simp;have HG:=iH (Blk.alloc wn WwA 86);have hba:=(Below.refl _ wn).alloc nL (Obj.cells WwA 86);have hg1:=hS.size;refine hKK.out _ _ (qTr hS hba) (fun hS=>?_);clear hKK KK hba;generalize wn.alloc (Obj.cells WwA 86)=wm at *;generalize wn.heap.size=ga at *;generalize wm=wn at *;refine rd1 9 ⟨some 32,_,_,_,_,none⟩ rfl (fun KK hKK=>?_);go_simp;refine (Gg rn.want.copy x.wants a5 c5 lo wn ((HI.out.below (qTr hBd hS) nL).s5) (by omega)).mono ?_;rintro e wk ⟨u,wt,hu,rfl,hb⟩;replace HG:=qBk HG hb;refine hKK.out _ _ (qTr hS hb) (fun hS=>?_);clear hKK KK hb;generalize wk=wn at *;refine tz 10 22 (.tuple #[.agg (wwA u),.bool wt]) rfl hS ?_;simp only [pX];refine tz 11 33 (.agg (wwA u)) rfl hS ?_;simp only [pX];refine tz 12 34 (.bool wt) rfl hS ?_;simp only [pX];refine rd1 14 ⟨none,_,_,_,_,none⟩ rfl (fun KK hKK=>?_);rw [if_pos (by rfl)];refine wp_store_mid 86 (.tmp 5) (.tmp 33) (by rfl) ga 0 (wwA u) (by rfl) (by rfl) HG.out.there Au (by simp [Value.oneCell']) ?_;have hS2:Below w1.heap.size w1 (wn.setCells ga 0 (wwL u)):=Aa hg1 _ _ _ hS;replace HG:=iH (HG.out.setAll (wwA u) rfl);refine hKK.out _ _ hS2 (fun hS=>?_);clear hKK KK hS2;generalize wn.setCells ga 0 _=wf at *;refine tz 15 6 (.bool wt) rfl hS ?_;simp only [pX];refine td ?_;have HS:=iH hS;clear hS;go_wp2_with fail;go_meet;exact ⟨ga,u,wt,rfl,rfl,hu,HG,(by show Below _ _ _;rw [← HW1.out];exact HS.out)⟩
  case rest =>
   obtain ⟨gu,u,wt,rfl,rfl,HWR,HGU,hb5⟩:=hcut;have HS5:=iH (HSI.out.below ((Below.refl _ _).drew.trans hb5.out));have HR5:=iH (Ae HR ((Below.refl _ _).drew.trans hb5.out));have hB5:Below w.heap.size w wc:=hB.drew.trans (hb5.out.mono hB.drew.size);clear HSI HR hB hb5;generalize wc=w5 at *;go_upto_region 6 with fail
   go_cut [7,8] (fun v b wz=>∃ (ga:Nat) (F:Rn) (t:Bool),v=.pointer (some ⟨ga,0,none⟩)∧b=.bool t∧Hid ((F,t)=lvX z rn)∧Hid (Blk ga (rrA F) 88 wz)∧Hid (Below w5.drew.heap.size w5.drew wz))
   case first =>
    obtain ⟨w1,hw1⟩:∃ w1,w1=w5.drew:=⟨_,rfl⟩;have HSd:Hid (SI x z w.heap.size a5 c5 (some ⟨b6,o6,none⟩) x.runs.length c6 b7 q7 b8 q8 w1):=by show SI _ _ _ _ _ _ _ _ _ _ _ _ _;rw [hw1];exact HS5.out.below (Below.refl _ _).drew
    have HUd:Hid (Blk gu (wwA u) 86 w1):=by show Blk _ _ _ _;rw [hw1];exact HGU.out.drew
    have hBd:Below w.heap.size w w1:=by rw [hw1];exact hB5.drew
    refine wp_region_held_drew (S:=fun wy=>Below w1.heap.size w1 wy) (by kernel_rfl) (by rw [hw1];exact Below.refl _ _) (fun hS=>?_);have HW1:=iH hw1;clear hw1;generalize w5.drew=wn at hS ⊢;refine tz 0 36 (.pointer (some ⟨w.heap.size,6,none⟩)) rfl hS ?_;simp only [pX];refine ty 1 ⟨some 37,_,_,_,_,none⟩ (.slice (some ⟨b6,o6,none⟩) x.runs.length c6) rfl (by rfl) ?_ hS ?_
    ·intro wy hy
     have h0:=(HSd.out.hX.below hy HSd.out.hX.lt).cell (o:=6) rfl;clear hy;go_simp
    simp only [pX];refine tz 2 38 (.int .i64 k) rfl hS ?_;simp only [pX];refine x0 3 39 (.pointer (some ⟨b6,o6+k*11,none⟩)) rfl hS ?_;simp only [pX];refine tk 4 ⟨some 40,_,_,_,_,none⟩ (.agg (rrA rn)) rfl (yieldsIf_load_mid (by rfl) _ _ rfl b6 (o6+k*11) rfl (rrL rn) _ (fun _ h=>HRG.out _ (qTr hBd h)) Tryz.underlying88 rfl Ag) hS ?_;simp only [pX];refine tk 5 ⟨some 41,_,_,_,_,none⟩ (.agg (wwA u)) rfl (yieldsIf_load_mid (by rfl) _ _ rfl gu (0) rfl (wwL u) _ (fun _ h=>(HUd.out.below h HUd.out.lt).rangeA) Tryz.underlying86 rfl Au) hS ?_;simp only [pX];refine tz 6 42 (.bool wt) rfl hS ?_;simp only [pX];refine tz 7 43 (.pointer (some ⟨w.heap.size,2,none⟩)) rfl hS ?_;simp only [pX];refine ty 8 ⟨some 44,_,_,_,_,none⟩ (.int .i64 x.clock) rfl (by rfl) ?_ hS ?_
    ·intro wy hy
     have h0:=(HSd.out.hX.below hy HSd.out.hX.lt).cell (o:=2) rfl;clear hy;go_simp
    simp only [pX];refine wpAnyH_ready (rs:=[9,13]) (by kernel_rfl) (by simp) (AllReadyH.cons (o:=⟨some 45,_,_,_,_,none⟩) rfl (fun KK hKK=>?_) (AllReadyH.cons (o:=⟨some 7,_,_,_,_,none⟩) rfl (fun KK hKK=>?_) AllReadyH.nil))
    ·skip
     go_simp;refine (Jw rn u wt x.clock wn).mono ?_;rintro e wk ⟨F,t,hF,rfl,hb⟩;refine hKK.out _ _ (qTr hS hb) (fun hS=>?_);clear hKK KK hb;generalize wk=wn at *;rw [HWR.out.so (z:=x) (x:=rn)] at hF;have HF:Hid ((F,t)=lvX z rn):=by show _=_;rw [HLV.out];exact hF
     clear hF;refine tz 10 35 (.tuple #[.agg (rrA F),.bool t]) rfl hS ?_;simp only [pX];refine tz 11 46 (.agg (rrA F)) rfl hS ?_;simp only [pX];refine tz 12 47 (.bool t) rfl hS ?_;simp only [pX];refine rd1 13 ⟨some 7,_,_,_,_,none⟩ rfl (fun KK hKK=>?_);go_simp;have HG:=iH (Blk.alloc wn RrA 88);have hba:=(Below.refl _ wn).alloc nL (Obj.cells RrA 88);have hg1:=hS.size;refine hKK.out _ _ (qTr hS hba) (fun hS=>?_);clear hKK KK hba;generalize wn.alloc (Obj.cells RrA 88)=wm at *;generalize wn.heap.size=ga at *;generalize wm=wn at *;refine rd1 14 ⟨none,_,_,_,_,none⟩ rfl (fun KK hKK=>?_);rw [if_pos (by rfl)];refine wp_store_mid 88 (.tmp 7) (.tmp 46) (by rfl) ga 0 (rrA F) (by rfl) (by rfl) HG.out.there Ag (by simp [Value.oneCell']) ?_;have hS2:Below w1.heap.size w1 (wn.setCells ga 0 (rrL F)):=Aa hg1 _ _ _ hS;replace HG:=iH (HG.out.setAll (rrA F) rfl);refine hKK.out _ _ hS2 (fun hS=>?_);clear hKK KK hS2;generalize wn.setCells ga 0 _=wf at *;refine tz 15 8 (.bool t) rfl hS ?_;simp only [pX];refine td ?_;have HS:=iH hS;clear hS;go_wp2_with fail;go_meet;exact ⟨ga,F,t,rfl,rfl,HF,HG,(by show Below _ _ _;rw [← HW1.out];exact HS.out)⟩
    ·skip
     go_simp;have HG:=iH (Blk.alloc wn RrA 88);have hba:=(Below.refl _ wn).alloc nL (Obj.cells RrA 88);have hg1:=hS.size;refine hKK.out _ _ (qTr hS hba) (fun hS=>?_);clear hKK KK hba;generalize wn.alloc (Obj.cells RrA 88)=wm at *;generalize wn.heap.size=ga at *;generalize wm=wn at *;refine rd1 9 ⟨some 45,_,_,_,_,none⟩ rfl (fun KK hKK=>?_);go_simp;refine (Jw rn u wt x.clock wn).mono ?_;rintro e wk ⟨F,t,hF,rfl,hb⟩;replace HG:=qBk HG hb;refine hKK.out _ _ (qTr hS hb) (fun hS=>?_);clear hKK KK hb;generalize wk=wn at *;rw [HWR.out.so (z:=x) (x:=rn)] at hF;have HF:Hid ((F,t)=lvX z rn):=by show _=_;rw [HLV.out];exact hF
     clear hF;refine tz 10 35 (.tuple #[.agg (rrA F),.bool t]) rfl hS ?_;simp only [pX];refine tz 11 46 (.agg (rrA F)) rfl hS ?_;simp only [pX];refine tz 12 47 (.bool t) rfl hS ?_;simp only [pX];refine rd1 14 ⟨none,_,_,_,_,none⟩ rfl (fun KK hKK=>?_);rw [if_pos (by rfl)];refine wp_store_mid 88 (.tmp 7) (.tmp 46) (by rfl) ga 0 (rrA F) (by rfl) (by rfl) HG.out.there Ag (by simp [Value.oneCell']) ?_;have hS2:Below w1.heap.size w1 (wn.setCells ga 0 (rrL F)):=Aa hg1 _ _ _ hS;replace HG:=iH (HG.out.setAll (rrA F) rfl);refine hKK.out _ _ hS2 (fun hS=>?_);clear hKK KK hS2;generalize wn.setCells ga 0 _=wf at *;refine tz 15 8 (.bool t) rfl hS ?_;simp only [pX];refine td ?_;have HS:=iH hS;clear hS;go_wp2_with fail;go_meet;exact ⟨ga,F,t,rfl,rfl,HF,HG,(by show Below _ _ _;rw [← HW1.out];exact HS.out)⟩
   case rest =>
    obtain ⟨gf,F,t,rfl,rfl,HF,HGF,hb6⟩:=hcut;have HS6:=iH (HS5.out.below ((Below.refl _ _).drew.trans hb6.out));have HR6:=iH (Ae HR5 ((Below.refl _ _).drew.trans hb6.out));have hB6:Below w.heap.size w wc:=hB5.drew.trans (hb6.out.mono hB5.drew.size);clear HS5 HR5 hB5 hb6 HGU HWR;generalize wc=w6 at *;have HFX:Hid ((F,t)=lvX x rn):=by show _=_;rw [← HLV.out];exact HF.out
    have HLT:Hid (liveTo x (k+1)=liveStep (lvX x) z rn):=by show _=_;rw [Fo HRX.out,HZQ.out]
    cases t with
    | true =>
     have HNN:Hid (∀ j u,(Dv F)[j]?=some u→(w6.alloc (Obj.cells (rrA F) 88)).cell? ((⟨w6.heap.size,0,none⟩:Addr).add j)=some u):=fun j u hj=>by rw [Addr.add_mid];exact (Blk.alloc w6 (rrA F) 88).rangeA j u hj
     have HOA:=iH (HR6.out.alloc (Obj.cells (rrA F) 88));have HSA:=iH (HS6.out.below ((Below.refl _ _).alloc nL (Obj.cells (rrA F) 88)));have hBA:Below w.heap.size w (w6.alloc (Obj.cells (rrA F) 88)):=hB6.alloc hB6.size _;have hws:w.heap.size+2≤w6.heap.size:=by have:=HS6.out.hZ.lt;omega
     have hgl:=(HR6.out.lt g rfl).2;go_wp2_with (first | (refine qLk Bi HGF ?_) | (at_builtin;refine Cj rfl _ _ 29 rfl (w.heap.size+2) 88 i0 _ 11 104 Tryz.underlying29 HI0 hz0 hz1 hz2 rfl (by decide) _ rs.length _ rfl HOA ⟨w6.heap.size,0,none⟩ 1 1 (Dv F) rfl rfl HNN (fun u hu=>Ca [F] u (by simp only [Aq,List.append_nil];exact hu)) (by unfold maxLen;omega) (by omega) (by simp;omega) ?_;intro v1 w8 hown8 hgrow8 hnil8 hblk8;have hv8:v1≠.slice none 0 0:=(fun e=>by have h9:=(hnil8.1 e).2;cases h9);obtain ⟨g8,q8n,rfl⟩:=Co hown8 hv8));have hgr8:(w6.alloc (Obj.cells (rrA F) 88)).grownBy w8 (some g):=hgrow8;have hg8:g8=g∨w6.heap.size≤g8:=by
      rcases hblk8 with h9 | h9
      ·exact .inl (Option.some.inj h9)
      ·have h8:g8=(w6.alloc (Obj.cells (rrA F) 88)).heap.size:=Option.some.inj h9
       exact .inr (by rw [h8];simp)
     have HS8:Hid (SI x (liveTo x (k+1)) w.heap.size a5 c5 (some ⟨b6,o6,none⟩) x.runs.length c6 b7 q7 b8 q8 w8):=by show SI _ _ _ _ _ _ _ _ _ _ _ _ _;rw [HLT.out];exact (HSA.out.grown hgr8 (by omega) hne).to (Ta HFX).1 (Ta HFX).2
     have HRN:Hid (rs++[F]=(x.runs.take (k+1)).filterMap (Gx (lvX x))):=by show _=_;rw [Uu HRX.out,Wm HFX.out,HRS.out]
     have HR8:Hid (w8.ownsRow (w.heap.size+2) 88 11 (.slice (some ⟨g8,0,none⟩) (rs++[F]).length q8n) (rs++[F]).length (Aq (rs++[F]))):=by
      show World.ownsRow _ _ _ _ _ _ _
      rw [List.length_append,Fh];simp only [Aq,List.append_nil];exact hown8
     have hn8:g8≠b7∧g8≠b8:=by have h1:=HS6.out.b7l;have h2:=HS6.out.b8l;omega
     have hB8:Below w.heap.size w w8:=hBA.grown hgr8 (by have:=hBA.size;omega) (fun j hj=>by cases hj;omega);clear hown8 hgrow8 hgr8 hnil8 hblk8 hv8 HSA hBA HOA HNN;go_wp2_with fail;go_roundw
     case rel=>exact ⟨k+1,g8,q8n,b7,q7,b8,q8,rs++[F],by omega,by go_num,by simp,HRN,HS8,HR8,hn8,hB8⟩
     case measure=>simp [intOf];omega
    | false =>
     have HST:=iH (bC (z:=z) HFX);have HRN:Hid (rs=(x.runs.take (k+1)).filterMap (Gx (lvX x))):=by show _=_;rw [Uu HRX.out,Ym HFX.out,HRS.out,List.append_nil]
     have kx6:w6.cell? ⟨w.heap.size,6,none⟩=some (.slice (some ⟨b6,o6,none⟩) x.runs.length c6):=HS6.out.hX.cell rfl;have kh:w6.cell? ⟨b6,o6+k*11+2,none⟩=some (.string rn.want.hold):=by have h9:=HRG.out w6 hB6 2 (.string rn.want.hold) rfl;simpa [Nat.add_assoc] using h9
     have kx7:w6.cell? ⟨w.heap.size,7,none⟩=some (.slice (some ⟨b7,0,none⟩) z.asks.length q7):=HS6.out.hX.cell rfl;go_wp2_with fail;refine (Fx rn.want.hold z.asks (some ⟨b7,0,none⟩) q7 0 w6 HS6.out.s7 (by have:=HZO.out.l7;omega)).mono ?_;rintro e w7 ⟨rfl,hb⟩;have HS7:=iH (HS6.out.below hb);have HR7:=iH (Ae HR6 hb);have hB7:=qTr hB6 hb;clear hb HS6 HR6 hB6 kx6 kh kx7 HGF
     cases hak:akI rn.want.hold z.asks with
     | none =>
      have HGU:Hid (Bh z rn.want.hold=z):=by show _=_;unfold Bh;rw [Pz hak]
      have HS8:Hid (SI x (liveTo x (k+1)) w.heap.size a5 c5 (some ⟨b6,o6,none⟩) x.runs.length c6 b7 q7 b8 q8 w7):=by show SI _ _ _ _ _ _ _ _ _ _ _ _ _;rw [HLT.out];exact HS7.out.to (by rw [HST.out.1,HGU.out]) (by rw [HST.out.2,HGU.out])
      clear hak;show _
      simp only [akN];by_cases hh:rn.want.hold.toList=[]
      ·have hh2:(rn.want.hold.toList == ([]:List UInt8))=true:=by simp [hh]
       go_wp2_with fail;go_roundw
       case rel=>exact ⟨k+1,g,q,b7,q7,b8,q8,rs,by omega,by go_num,rfl,HRN,HS8,HR7,hne,hB7⟩
       case measure=>simp [intOf];omega
      ·have hh2:(rn.want.hold.toList == ([]:List UInt8))=false:=by simp [hh]
       go_wp2_with fail;go_roundw
       case rel=>exact ⟨k+1,g,q,b7,q7,b8,q8,rs,by omega,by go_num,rfl,HRN,HS8,HR7,hne,hB7⟩
       case measure=>simp [intOf];omega
     | some j =>
      obtain ⟨a,haj,haf⟩:=Pq hak;have hjl:=Ah haj;have hah:a.hold=rn.want.hold:=(Dz haf).2;have ham:=(Dz haf).1;have hne0:¬ rn.want.hold.toList=[]:=by rw [← hah];exact HZO.out.hd a ham
      have hh2:(rn.want.hold.toList == ([]:List UInt8))=false:=by simp [hne0]
      have HGU:Hid (Bh z rn.want.hold={ z with asks:=z.asks.filter (fun g=>!decide (g.hold=rn.want.hold)),gives:=if z.gives.length<40 then Az (·.hold) z.gives a else z.gives }):=by show _=_;unfold Bh;rw [haf]
      have haz:=HZO.out.z7 a ham;have HAJ:=iH haj;clear hak haj haf hah ham hne0;simp only [akN];have kx8:w7.cell? ⟨w.heap.size,8,none⟩=some (.slice (some ⟨b8,0,none⟩) z.gives.length q8):=HS7.out.hX.cell rfl;have hl8z:z.gives.length≤40:=HZO.out.l8;have hl7z:z.asks.length≤40:=HZO.out.l7;by_cases hcl:(z.gives.length:Int)<40
      case neg =>
       have HSd:=HS7;have HRd:=HR7;have hBd:=hB7;clear HS7 HR7 hB7;have kx7:w7.cell? ⟨w.heap.size,7,none⟩=some (.slice (some ⟨b7,0,none⟩) z.asks.length q7):=HSd.out.hX.cell rfl;go_wp2_with fail;refine (Kw rn.want.hold z.asks (some ⟨b7,0,none⟩) q7 0 w7 HSd.out.s7 (by omega)).mono ?_;rintro e wd2 ⟨bd,qd,rfl,hod,hb⟩;have HSe:=iH (HSd.out.below hb);have HRe:=iH (Ae HRd hb);have hBe:=qTr hBd hb;have hbd:=(hod.lt bd rfl).1;have hgl2:=(HRd.out.lt g rfl).2;have hzl:=HSd.out.hZ.lt;have HOD:=iH (Cn hod (lT (List.length_filter_le _ _) (by omega)) (fun y hy=>by have:=HZO.out.z7 y (List.mem_filter.1 hy).1;omega));have hcd:=Ho hod;have ky7:wd2.cell? ⟨w.heap.size,7,none⟩=some (.slice (some ⟨b7,0,none⟩) z.asks.length q7):=HSe.out.hX.cell rfl;have fy7:wd2.frozen? ⟨w.heap.size,7,none⟩=false:=HSe.out.hX.frozen 7;have HS9:Hid (SI x (liveTo x (k+1)) w.heap.size a5 c5 (some ⟨b6,o6,none⟩) x.runs.length c6 bd qd b8 q8 (wd2.setCell ⟨w.heap.size,7,none⟩ (.slice (some ⟨bd,0,none⟩) (z.asks.filter (fun g=>!decide (g.hold=rn.want.hold))).length qd))):=by show SI _ _ _ _ _ _ _ _ _ _ _ _ _;rw [HLT.out];exact (HSe.out.set7 (HOD.out.keep AksC.holds (Keeps.refl _ _) (zL)) hcd (by omega) (hod.lt bd rfl).2).to (by rw [HST.out.1,HGU.out]) (by rw [HST.out.2,HGU.out];exact if_neg (by omega))
       have HR9:Hid ((wd2.setCell ⟨w.heap.size,7,none⟩ (.slice (some ⟨bd,0,none⟩) (z.asks.filter (fun g=>!decide (g.hold=rn.want.hold))).length qd)).ownsRow (w.heap.size+2) 88 11 (.slice (some ⟨g,0,none⟩) rs.length q) rs.length (Aq rs)):=Be HRe (fun b o sp l c e=>by cases e;exact Below.heap_setCell wd2 ⟨w.heap.size,7,none⟩ _ _ (by show g≠w.heap.size;omega));have hB9:Below w.heap.size w (wd2.setCell ⟨w.heap.size,7,none⟩ (.slice (some ⟨bd,0,none⟩) (z.asks.filter (fun g=>!decide (g.hold=rn.want.hold))).length qd)):=hBe.setCell (p:=⟨w.heap.size,7,none⟩) nL _;have hne9:g≠bd∧g≠b8:=by omega
       clear hb hod HSd HRd hBd HSe HRe hBe HOD kx7;go_wp2_with fail;go_roundw
       case rel=>exact ⟨k+1,g,q,bd,qd,b8,q8,rs,by omega,by go_num,rfl,HRN,HS9,HR9,hne9,hB9⟩
       case measure=>simp [intOf];omega
      go_upto_region 13 with fail;have HSd:=iH (HS7.out.below (Below.refl _ _).drew);have HRd:=iH (Ae HR7 (Below.refl _ _).drew);have hBd:=hB7.drew;obtain ⟨w1,hw1⟩:∃ w1,w1=w7.drew:=⟨_,rfl⟩;rw [← hw1] at HSd HRd hBd;refine Gn (S:=fun wy=>Below w1.heap.size w1 wy) 9 (by kernel_rfl) (by rw [hw1];exact Below.refl _ _) (fun hS=>?_);generalize w7.drew=wn at *;have hw2:wn=w1:=hw1.symm;subst hw2;clear hw1 HS7 HR7 hB7 kx8;have HAR:Hid (∀ wy,Below wn.heap.size wn wy→wy.rangeAt b7 (0+j*4) (aaL a)):=fun wy hy=>by obtain ⟨b1,o1,e1,_,_,h1⟩:=(HSd.out.below hy).s7.at HAJ;cases e1;exact Dh h1
      refine tv 0 ⟨some 74,_,_,_,_,none⟩ (.pointer (some ⟨w.heap.size,8,none⟩)) rfl (by rfl) ?_ hS ?_
      ·intro wy hy
       clear hy;go_simp
      simp only [pX];refine tv 1 ⟨some 75,_,_,_,_,none⟩ (.slice (some ⟨b8,0,none⟩) z.gives.length q8) rfl (by rfl) ?_ hS ?_
      ·intro wy hy
       have h0:=(HSd.out.hX.below hy HSd.out.hX.lt).cell (o:=8) rfl;clear hy;go_simp
      simp only [pX];refine tv 2 ⟨some 76,_,_,_,_,none⟩ (.pointer (some ⟨w.heap.size,7,none⟩)) rfl (by rfl) ?_ hS ?_
      ·intro wy hy
       clear hy;go_simp
      simp only [pX];refine tv 3 ⟨some 77,_,_,_,_,none⟩ (.slice (some ⟨b7,0,none⟩) z.asks.length q7) rfl (by rfl) ?_ hS ?_
      ·intro wy hy
       have h0:=(HSd.out.hX.below hy HSd.out.hX.lt).cell (o:=7) rfl;clear hy;go_simp
      simp only [pX];refine tv 4 ⟨some 78,_,_,_,_,none⟩ (.int .i64 j) rfl (by rfl) ?_ hS ?_
      ·intro wy hy
       clear hy;go_simp
      simp only [pX];refine tv 5 ⟨some 79,_,_,_,_,none⟩ (.pointer (some ⟨b7,0+j*4,none⟩)) rfl (by rfl) ?_ hS ?_
      ·intro wy hy
       clear hy
       (go_simp;try omega)
      simp only [pX];refine tu 6 ⟨some 80,_,_,_,_,none⟩ (.agg (aaA a)) rfl (yieldsIf_load_mid (by rfl) _ _ rfl b7 (0+j*4) rfl (aaL a) _ (fun _ h=>HAR.out _ h) Tryz.underlying52 rfl Bu) hS ?_;simp only [pX];refine ru1 7 ⟨some 81,_,_,_,_,none⟩ rfl (fun KK hKK=>?_);go_simp;refine (Hv a z.gives b8 0 q8 0 wn HSd.out.s8 (by omega) HSd.out.k8 HZO.out.z8 haz).mono ?_;rintro e wk ⟨bg,qg,rfl,hsg,hcg,hb⟩;have HSg:=iH hsg;have HSk:=iH (HSd.out.below hb);have HRk:=iH (Ae HRd hb);have hBk:=qTr hBd hb;obtain ⟨hbgl,hbgu⟩:=Vh hsg (Ps _ _);have hgl2:=(HRd.out.lt g rfl).2;have hzl:=HSd.out.hZ.lt;refine hKK.out _ _ hb (fun hS=>?_);clear hKK KK hb hsg;refine tv 8 ⟨some 82,_,_,_,_,none⟩ (.pointer (some ⟨w.heap.size,8,none⟩)) rfl (by rfl) ?_ hS ?_
      ·intro wy hy
       clear hy;go_simp
      simp only [pX];have ky8:wk.cell? ⟨w.heap.size,8,none⟩=some (.slice (some ⟨b8,0,none⟩) z.gives.length q8):=HSk.out.hX.cell rfl;have fy8:wk.frozen? ⟨w.heap.size,8,none⟩=false:=HSk.out.hX.frozen 8;refine Gj (rs:=[9]) (by kernel_rfl) (by simp) (AllReadyU.last (o:=⟨none,_,_,_,_,none⟩) rfl (fun KK hKK=>?_));go_simp;refine hKK.out _ _ ?_;clear hKK KK hS;refine Ky (by kernel_rfl) ?_ _;have HSq:Hid (SI x { z with gives:=Az (·.hold) z.gives a } w.heap.size a5 c5 (some ⟨b6,o6,none⟩) x.runs.length c6 b7 q7 bg qg (wk.setCell ⟨w.heap.size,8,none⟩ (.slice (some ⟨bg,0,none⟩) (Az (·.hold) z.gives a).length qg))):=HSk.out.set8 (HSg.out.keep AksC.holds (Keeps.refl _ _) (zL)) hcg (by omega) hbgu;have HRq:Hid ((wk.setCell ⟨w.heap.size,8,none⟩ (.slice (some ⟨bg,0,none⟩) (Az (·.hold) z.gives a).length qg)).ownsRow (w.heap.size+2) 88 11 (.slice (some ⟨g,0,none⟩) rs.length q) rs.length (Aq rs)):=Be HRk (fun b o sp l c e=>by cases e;exact Below.heap_setCell wk ⟨w.heap.size,8,none⟩ _ _ (by show g≠w.heap.size;omega));have hBq:Below w.heap.size w (wk.setCell ⟨w.heap.size,8,none⟩ (.slice (some ⟨bg,0,none⟩) (Az (·.hold) z.gives a).length qg)):=hBk.setCell (p:=⟨w.heap.size,8,none⟩) nL _;have hneq:g≠b7∧g≠bg:=by omega
      clear HSd HRd hBd HSk HRk hBk HSg ky8 fy8 HAR;generalize wk.setCell ⟨w.heap.size,8,none⟩ (.slice (some ⟨bg,0,none⟩) (Az (·.hold) z.gives a).length qg)=w8 at *;have HSd:=HSq;have HRd:=HRq;have hBd:=hBq;clear HSq HRq hBq;have kx7:w8.cell? ⟨w.heap.size,7,none⟩=some (.slice (some ⟨b7,0,none⟩) z.asks.length q7):=HSd.out.hX.cell rfl;go_wp2_with fail;refine (Kw rn.want.hold z.asks (some ⟨b7,0,none⟩) q7 0 w8 HSd.out.s7 (by omega)).mono ?_;rintro e wd2 ⟨bd,qd,rfl,hod,hb⟩;have HSe:=iH (HSd.out.below hb);have HRe:=iH (Ae HRd hb);have hBe:=qTr hBd hb;have hbd:=(hod.lt bd rfl).1;have hgl2:=(HRd.out.lt g rfl).2;have hzl:=HSd.out.hZ.lt;have HOD:=iH (Cn hod (lT (List.length_filter_le _ _) (by omega)) (fun y hy=>by have:=HZO.out.z7 y (List.mem_filter.1 hy).1;omega));have hcd:=Ho hod;have ky7:wd2.cell? ⟨w.heap.size,7,none⟩=some (.slice (some ⟨b7,0,none⟩) z.asks.length q7):=HSe.out.hX.cell rfl;have fy7:wd2.frozen? ⟨w.heap.size,7,none⟩=false:=HSe.out.hX.frozen 7;have HS9:Hid (SI x (liveTo x (k+1)) w.heap.size a5 c5 (some ⟨b6,o6,none⟩) x.runs.length c6 bd qd bg qg (wd2.setCell ⟨w.heap.size,7,none⟩ (.slice (some ⟨bd,0,none⟩) (z.asks.filter (fun g=>!decide (g.hold=rn.want.hold))).length qd))):=by show SI _ _ _ _ _ _ _ _ _ _ _ _ _;rw [HLT.out];exact (HSe.out.set7 (HOD.out.keep AksC.holds (Keeps.refl _ _) (zL)) hcd (by omega) (hod.lt bd rfl).2).to (by rw [HST.out.1,HGU.out]) (by rw [HST.out.2,HGU.out];exact if_pos (by omega))
      have HR9:Hid ((wd2.setCell ⟨w.heap.size,7,none⟩ (.slice (some ⟨bd,0,none⟩) (z.asks.filter (fun g=>!decide (g.hold=rn.want.hold))).length qd)).ownsRow (w.heap.size+2) 88 11 (.slice (some ⟨g,0,none⟩) rs.length q) rs.length (Aq rs)):=Be HRe (fun b o sp l c e=>by cases e;exact Below.heap_setCell wd2 ⟨w.heap.size,7,none⟩ _ _ (by show g≠w.heap.size;omega));have hB9:Below w.heap.size w (wd2.setCell ⟨w.heap.size,7,none⟩ (.slice (some ⟨bd,0,none⟩) (z.asks.filter (fun g=>!decide (g.hold=rn.want.hold))).length qd)):=hBe.setCell (p:=⟨w.heap.size,7,none⟩) nL _;have hne9:g≠bd∧g≠bg:=by omega
      clear hb hod HSd HRd hBd HSe HRe hBe HOD kx7;go_wp2_with fail;go_roundw
      case rel=>exact ⟨k+1,g,q,bd,qd,bg,qg,rs,by omega,by go_num,rfl,HRN,HS9,HR9,hne9,hB9⟩
      case measure=>simp [intOf];omega
end Go.Proofs.YtkiloaiffopllaaGreat
