import Derived.Test.YtpeajnkkdioflaaGreatJ44
set_option maxHeartbeats 16000000
set_option maxRecDepth 100000
namespace Go.Proofs.YtpeajnkkdioflaaGreat
open Go.RowKit
theorem dY (c:Cpy) (ae:Option Addr) (ce:Nat) (xs:List Cnt) (b o cap lo:Nat) (w:World) (hin:SliceC CntC 4 lo w (some ⟨b,o,none⟩) xs) (hA:Asc Cnt.service xs) (hsm:xs.length≤100) (hcap:xs.length≤cap) (hs:∀ x∈xs,Jt 1000 x) (hc:c.service.size≤20) :
  Calls Tryz.prog 51 #[.slice (some ⟨b,o,none⟩) xs.length cap,.agg #[.string c.name,.string c.service,.int .i64 c.rank,.int .i64 c.born,.int .i64 c.room,.int .i64 c.hold,.string c.select,.slice ae c.likes.length ce,.int .i64 c.apart,.string c.near,.string c.fixed,.string c.at_]] w fun e w'=>∃ (g q:Nat),e=.returned (.slice (some ⟨g,0,none⟩) (Bh xs c).length q)∧w'.ownsRow w.heap.size 125 4 (.slice (some ⟨g,0,none⟩) (Bh xs c).length q) (Bh xs c).length (Am (Bh xs c))∧Below w.heap.size w w':=by
 obtain ⟨i0,hi,hz0,hz1,hz2⟩:=info_parts Pf;have HI0:=iH hi;have HIN:=iH hin;have HAS:=iH hA;have HSM:=iH hs;have HC0:Hid (∀ wy,Below w.heap.size w wy→∀ t u,(Am xs)[t]?=some u→wy.cell? ((⟨b,o,none⟩:Addr).add t)=some u):=fun wy hy t u hu=>gW (HIN.out.below CntC.holds hy nL) t u hu
 clear hin hA hs;have HK0:=iH (Blk.alloc w #[.string c.name,.string c.service,.int .i64 c.rank,.int .i64 c.born,.int .i64 c.room,.int .i64 c.hold,.string c.select,.slice ae c.likes.length ce,.int .i64 c.apart,.string c.near,.string c.fixed,.string c.at_] 83);have hB0:Below w.heap.size w (w.alloc (Obj.cells #[.string c.name,.string c.service,.int .i64 c.rank,.int .i64 c.born,.int .i64 c.room,.int .i64 c.hold,.string c.select,.slice ae c.likes.length ce,.int .i64 c.apart,.string c.near,.string c.fixed,.string c.at_] 83)):=(Below.refl _ _).alloc nL _;clear hi;go_enter Tryz.func51,Tryz.ntmps51;go_upto_region 2 with fail;generalize w.alloc (Obj.cells #[.string c.name,.string c.service,.int .i64 c.rank,.int .i64 c.born,.int .i64 c.room,.int .i64 c.hold,.string c.select,.slice ae c.likes.length ce,.int .i64 c.apart,.string c.near,.string c.fixed,.string c.at_] 83)=wa at *;go_loopw [5] (fun i wr=>∃ k:Nat,k≤xs.length∧i=.int .i64 k∧Hid (∀ y∈xs.take k,ltN y.service c.service=true)∧Hid (Blk w.heap.size #[.string c.name,.string c.service,.int .i64 c.rank,.int .i64 c.born,.int .i64 c.room,.int .i64 c.hold,.string c.select,.slice ae c.likes.length ce,.int .i64 c.apart,.string c.near,.string c.fixed,.string c.at_] 83 wr)∧Below w.heap.size w wr) (fun i _=>xs.length - (intOf i).toNat)
 case atStart=>exact ⟨0,Nat.zero_le _,rfl,fun y hy=>by simp at hy,HK0,hB0⟩
 case round =>
  clear HK0 hB0;obtain ⟨k,hk,rfl,HL,HK,hB⟩:=hrel;go_upto_region 2 with fail
  go_cut [20] (fun v wz=>∃ bv:Bool,v=.bool bv∧Hid (bv=true→k<xs.length∧∀ y∈xs.take (k+1),ltN y.service c.service=true)∧Hid (bv=false→∀ y,xs[k]?=some y→ltN y.service c.service=false)∧Hid (Blk w.heap.size #[.string c.name,.string c.service,.int .i64 c.rank,.int .i64 c.born,.int .i64 c.room,.int .i64 c.hold,.string c.select,.slice ae c.likes.length ce,.int .i64 c.apart,.string c.near,.string c.fixed,.string c.at_] 83 wz)∧Below w.heap.size w wz)
  case first =>
   by_cases hlt:k<xs.length
   case neg =>
    refine wp_region_held_drew (S:=fun wy=>wy=wr.drew) (by kernel_rfl) rfl (fun hS=>?_);refine tz 0 7 (.int .i64 k) rfl hS ?_;simp only [pA,pB,pC,pD];refine tz 1 8 (.slice (some ⟨b,o,none⟩) xs.length cap) rfl hS ?_;simp only [pA,pB,pC,pD];refine tz 2 9 (.int .i64 xs.length) rfl hS ?_;simp only [pA,pB,pC,pD];refine ty 3 ⟨some 10,_,_,_,_,none⟩ (.bool false) rfl (by rfl) ?_ hS ?_
    ·intro wy hy
     clear hy
     (first | (go_simp;done) | (go_simp;omega) | (go_simp;simp;omega))
    simp only [pA,pB,pC,pD];refine tz 4 11 (.bool false) rfl hS ?_;simp only [pA,pB,pC,pD];refine ts 5 12 rfl hS ?_;simp only [pA,pB,pC,pD];refine ts 6 13 rfl hS ?_;simp only [pA,pB,pC,pD];refine ts 7 14 rfl hS ?_;simp only [pA,pB,pC,pD];refine ts 8 15 rfl hS ?_;simp only [pA,pB,pC,pD];refine ts 9 16 rfl hS ?_;simp only [pA,pB,pC,pD];refine ts 10 17 rfl hS ?_;simp only [pA,pB,pC,pD];refine ts 11 18 rfl hS ?_;simp only [pA,pB,pC,pD];refine ts 12 19 rfl hS ?_;simp only [pA,pB,pC,pD];refine tz 13 20 (.bool false) rfl hS ?_;simp only [pA,pB,pC,pD];refine td ?_;clear hS;go_wp2_with fail;go_meet;exact ⟨false,rfl,(fun e=>by cases e),(fun _ y hy=>by have:=Ad hy;omega),HK.out.drew,hB.drew⟩
   obtain ⟨y,hy⟩:∃ y,xs[k]?=some y:=⟨xs[k],List.getElem?_eq_getElem hlt⟩;have q0:wr.cell? ⟨b,o+k*4,none⟩=some (.string y.service):=by obtain ⟨b1,o1,e1,_,_,h1⟩:=(HIN.out.below CntC.holds hB nL).at hy;cases e1;simpa using h1.1
   have HY:=iH hy;clear hy
   cases hlv:ltN y.service c.service with
   | true =>
    refine wp_region_held_drew (S:=fun wy=>wy=wr.drew) (by kernel_rfl) rfl (fun hS=>?_);refine tz 0 7 (.int .i64 k) rfl hS ?_;simp only [pA,pB,pC,pD];refine tz 1 8 (.slice (some ⟨b,o,none⟩) xs.length cap) rfl hS ?_;simp only [pA,pB,pC,pD];refine tz 2 9 (.int .i64 xs.length) rfl hS ?_;simp only [pA,pB,pC,pD];refine ty 3 ⟨some 10,_,_,_,_,none⟩ (.bool true) rfl (by rfl) ?_ hS ?_
    ·intro wy hy
     clear hy
     (first | (go_simp;done) | (go_simp;omega) | (go_simp;simp;omega))
    simp only [pA,pB,pC,pD];refine tz 4 11 (.bool true) rfl hS ?_;simp only [pA,pB,pC,pD];refine tz 5 12 (.slice (some ⟨b,o,none⟩) xs.length cap) rfl hS ?_;simp only [pA,pB,pC,pD];refine tz 6 13 (.int .i64 k) rfl hS ?_;simp only [pA,pB,pC,pD];refine x2 7 14 (.pointer (some ⟨b,o+k*4,none⟩)) rfl hS ?_;simp only [pA,pB,pC,pD];refine tz 8 15 (.pointer (some ⟨b,o+k*4,none⟩)) rfl hS ?_;simp only [pA,pB,pC,pD];refine tl 9 16 (.string y.service) ⟨b,o+k*4,none⟩ rfl (fun wy hy=>by rw [hy];exact q0) hS ?_;simp only [pA,pB,pC,pD];refine tz 10 17 (.pointer (some ⟨w.heap.size,1,none⟩)) rfl hS ?_;simp only [pA,pB,pC,pD];refine tl 11 18 (.string c.service) ⟨w.heap.size,1,none⟩ rfl (fun wy hy=>by rw [hy];exact HK.out.cell rfl) hS ?_;simp only [pA,pB,pC,pD];refine ty 12 ⟨some 19,_,_,_,_,some (4,true)⟩ (.bool true) rfl (by rfl) ?_ hS ?_
    ·intro wy hy
     clear hy
     (first | (go_simp;done) | (go_simp;rw [hlv];done) | (go_simp;simp [hlv];done) | (unfold ltN at hlv;go_simp;done) | (unfold ltN at hlv;go_simp;simp [hlv]))
    simp only [pA,pB,pC,pD];refine tz 13 20 (.bool true) rfl hS ?_;simp only [pA,pB,pC,pD];refine td ?_;clear hS;go_wp2_with fail;go_meet;exact ⟨true,rfl,(fun _=>⟨hlt,Vc HL.out HY.out hlv⟩),(fun e=>by cases e),HK.out.drew,hB.drew⟩
   | false =>
    refine wp_region_held_drew (S:=fun wy=>wy=wr.drew) (by kernel_rfl) rfl (fun hS=>?_);refine tz 0 7 (.int .i64 k) rfl hS ?_;simp only [pA,pB,pC,pD];refine tz 1 8 (.slice (some ⟨b,o,none⟩) xs.length cap) rfl hS ?_;simp only [pA,pB,pC,pD];refine tz 2 9 (.int .i64 xs.length) rfl hS ?_;simp only [pA,pB,pC,pD];refine ty 3 ⟨some 10,_,_,_,_,none⟩ (.bool true) rfl (by rfl) ?_ hS ?_
    ·intro wy hy
     clear hy
     (first | (go_simp;done) | (go_simp;omega) | (go_simp;simp;omega))
    simp only [pA,pB,pC,pD];refine tz 4 11 (.bool true) rfl hS ?_;simp only [pA,pB,pC,pD];refine tz 5 12 (.slice (some ⟨b,o,none⟩) xs.length cap) rfl hS ?_;simp only [pA,pB,pC,pD];refine tz 6 13 (.int .i64 k) rfl hS ?_;simp only [pA,pB,pC,pD];refine x2 7 14 (.pointer (some ⟨b,o+k*4,none⟩)) rfl hS ?_;simp only [pA,pB,pC,pD];refine tz 8 15 (.pointer (some ⟨b,o+k*4,none⟩)) rfl hS ?_;simp only [pA,pB,pC,pD];refine tl 9 16 (.string y.service) ⟨b,o+k*4,none⟩ rfl (fun wy hy=>by rw [hy];exact q0) hS ?_;simp only [pA,pB,pC,pD];refine tz 10 17 (.pointer (some ⟨w.heap.size,1,none⟩)) rfl hS ?_;simp only [pA,pB,pC,pD];refine tl 11 18 (.string c.service) ⟨w.heap.size,1,none⟩ rfl (fun wy hy=>by rw [hy];exact HK.out.cell rfl) hS ?_;simp only [pA,pB,pC,pD];refine ty 12 ⟨some 19,_,_,_,_,some (4,true)⟩ (.bool false) rfl (by rfl) ?_ hS ?_
    ·intro wy hy
     clear hy
     (first | (go_simp;done) | (go_simp;rw [hlv];done) | (go_simp;simp [hlv];done) | (unfold ltN at hlv;go_simp;done) | (unfold ltN at hlv;go_simp;simp [hlv]))
    simp only [pA,pB,pC,pD];refine tz 13 20 (.bool false) rfl hS ?_;simp only [pA,pB,pC,pD];refine td ?_;clear hS;go_wp2_with fail;go_meet;exact ⟨false,rfl,(fun e=>by cases e),(fun _ z hz=>by rw [HY.out] at hz;cases hz;exact hlv),HK.out.drew,hB.drew⟩
  case rest =>
   obtain ⟨bv,rfl,HT,HF,HK2,hB2⟩:=hcut;clear HK hB;generalize wc=wz at *
   cases bv with
   | true =>
    have hlt:=(HT.out rfl).1;have HL2:Hid (∀ y∈xs.take (k+1),ltN y.service c.service=true):=(HT.out rfl).2;clear HT HF;go_wp2_with fail;go_roundw
    case rel=>exact ⟨k+1,by omega,by go_num,HL2,HK2,hB2⟩
    case measure=>simp [intOf];omega
   | false =>
    have HNO:Hid (∀ y,xs[k]?=some y→ltN y.service c.service=false):=HF.out rfl;clear HT HF;go_upto_region 4 with fail;have HR0:Hid ((wz.alloc (Obj.cells #[] 125)).ownsRow wz.heap.size 125 4 (.slice (some ⟨wz.heap.size,0,none⟩) 0 0) 0 []):=World.ownsRow_made wz #[] 0 nL (Nat.zero_le _) rfl;have hwz:w.heap.size<wz.heap.size:=HK2.out.lt;have hBa:Below w.heap.size w (wz.alloc (Obj.cells #[] 125)):=hB2.alloc hB2.size _;have HKa:=iH (HK2.out.below ((Below.refl wz.heap.size wz).alloc nL (Obj.cells #[] 125)) HK2.out.lt);have HNN:Hid (∀ t u,(Am xs)[t]?=some u→(wz.alloc (Obj.cells #[] 125)).cell? ((⟨b,o,none⟩:Addr).add t)=some u):=HC0.out _ hBa;have hba:wz.heap.size≤(wz.alloc (Obj.cells #[] 125)).heap.size:=by simp
    go_upto_region 5 with (at_builtin;refine wpList_append_own _ rfl _ _ 30 rfl wz.heap.size 125 i0 _ 4 40 Tryz.underlying30 HI0.out hz0 hz1 hz2 rfl (by decide) _ 0 _ rfl HR0.out ⟨b,o,none⟩ xs.length cap (Am xs) rfl (Cl xs) HNN.out (Cb xs) (by unfold maxLen;omega) (by omega) hba ?_;intro v8 w8 hown8 hgrow8 hnil8;have hv8:v8≠.slice none 0 0:=(fun e=>by have h9:=(hnil8.1 e).1;cases h9);rw [Nat.zero_add,List.nil_append] at hown8;obtain ⟨gu,qu,rfl⟩:=Dd hown8 hv8);have HOU:=iH (Bd hown8 (show w.heap.size≤wz.heap.size by omega));have hgu:w.heap.size<gu:=by have h9:=Ih hown8;omega
    have hBu:Below w.heap.size w w8:=hBa.grown hgrow8 hBa.size (fun j hj=>by have h9:=Dh HR0.out j hj;omega);have HKu:=iH (HKa.out.grown hgrow8 (fun e=>by have e7:w.heap.size=wz.heap.size:=Option.some.inj e;have:=HK2.out.lt;omega));clear hown8 hgrow8 hnil8 hv8 HR0 hBa HKa HK2 hB2 HNN hba;generalize w8=wu at *
    go_cut [39] (fun v wq=>∃ bv:Bool,v=.bool bv∧Hid (bv=true→∀ y,xs[k]?=some y→y.service≠c.service)∧Hid (bv=false→∃ y,xs[k]?=some y∧y.service=c.service)∧Hid (wq.ownsRow w.heap.size 125 4 (.slice (some ⟨gu,0,none⟩) xs.length qu) xs.length (Am xs))∧Hid (Blk w.heap.size #[.string c.name,.string c.service,.int .i64 c.rank,.int .i64 c.born,.int .i64 c.room,.int .i64 c.hold,.string c.select,.slice ae c.likes.length ce,.int .i64 c.apart,.string c.near,.string c.fixed,.string c.at_] 83 wq)∧Below w.heap.size w wq)
    case first =>
     by_cases hlt:k<xs.length
     case neg =>
      have hkn:k=xs.length:=by omega
      subst hkn;refine wp_region_held_drew (S:=fun wy=>wy=wu.drew) (by kernel_rfl) rfl (fun hS=>?_);refine tz 0 26 (.int .i64 xs.length) rfl hS ?_;simp only [pA,pB,pC,pD];refine tz 1 27 (.slice (some ⟨gu,0,none⟩) xs.length qu) rfl hS ?_;simp only [pA,pB,pC,pD];refine tz 2 28 (.int .i64 xs.length) rfl hS ?_;simp only [pA,pB,pC,pD];refine ty 3 ⟨some 29,_,_,_,_,none⟩ (.bool true) rfl (by rfl) ?_ hS ?_
      ·intro wy hy
       clear hy
       (first | (go_simp;done) | (go_simp;omega) | (go_simp;simp;omega))
      simp only [pA,pB,pC,pD];refine tz 4 30 (.bool true) rfl hS ?_;simp only [pA,pB,pC,pD];refine ts 5 31 rfl hS ?_;simp only [pA,pB,pC,pD];refine ts 6 32 rfl hS ?_;simp only [pA,pB,pC,pD];refine ts 7 33 rfl hS ?_;simp only [pA,pB,pC,pD];refine ts 8 34 rfl hS ?_;simp only [pA,pB,pC,pD];refine ts 9 35 rfl hS ?_;simp only [pA,pB,pC,pD];refine ts 10 36 rfl hS ?_;simp only [pA,pB,pC,pD];refine ts 11 37 rfl hS ?_;simp only [pA,pB,pC,pD];refine ts 12 38 rfl hS ?_;simp only [pA,pB,pC,pD];refine tz 13 39 (.bool true) rfl hS ?_;simp only [pA,pB,pC,pD];refine td ?_;clear hS;go_wp2_with fail;go_meet;exact ⟨true,rfl,(fun _ y hy=>by have:=Ad hy;omega),(fun e=>by cases e),HOU.out.drew,HKu.out.drew,hBu.drew⟩
     obtain ⟨y,hy⟩:∃ y,xs[k]?=some y:=⟨xs[k],List.getElem?_eq_getElem hlt⟩;have q0:wu.cell? ⟨gu,k*4,none⟩=some (.string y.service):=by have h9:=HOU.out.cellAt (k*4) (by omega);rw [h9,show k*4=k*4+0 by omega,Ds xs k y 0 hy (by omega)];rfl
     have HY:=iH hy;have hne9:¬ (k:Int)=(xs.length:Int):=by omega
     clear hy;by_cases hyx:y.service=c.service
     case pos =>
      have HYX:=iH hyx;have hev:(y.service.toList == c.service.toList)=true:=by rw [hyx];simp
      clear hyx;refine wp_region_held_drew (S:=fun wy=>wy=wu.drew) (by kernel_rfl) rfl (fun hS=>?_);refine tz 0 26 (.int .i64 k) rfl hS ?_;simp only [pA,pB,pC,pD];refine tz 1 27 (.slice (some ⟨gu,0,none⟩) xs.length qu) rfl hS ?_;simp only [pA,pB,pC,pD];refine tz 2 28 (.int .i64 xs.length) rfl hS ?_;simp only [pA,pB,pC,pD];refine ty 3 ⟨some 29,_,_,_,_,none⟩ (.bool false) rfl (by rfl) ?_ hS ?_
      ·intro wy hy
       clear hy
       (first | (go_simp;done) | (go_simp;omega) | (go_simp;simp;omega))
      simp only [pA,pB,pC,pD];refine tz 4 30 (.bool false) rfl hS ?_;simp only [pA,pB,pC,pD];refine tz 5 31 (.slice (some ⟨gu,0,none⟩) xs.length qu) rfl hS ?_;simp only [pA,pB,pC,pD];refine tz 6 32 (.int .i64 k) rfl hS ?_;simp only [pA,pB,pC,pD];refine x2 7 33 (.pointer (some ⟨gu,k*4,none⟩)) rfl hS ?_;simp only [pA,pB,pC,pD];refine tz 8 34 (.pointer (some ⟨gu,k*4,none⟩)) rfl hS ?_;simp only [pA,pB,pC,pD];refine tl 9 35 (.string y.service) ⟨gu,k*4,none⟩ rfl (fun wy hy=>by rw [hy];exact q0) hS ?_;simp only [pA,pB,pC,pD];refine tz 10 36 (.pointer (some ⟨w.heap.size,1,none⟩)) rfl hS ?_;simp only [pA,pB,pC,pD];refine tl 11 37 (.string c.service) ⟨w.heap.size,1,none⟩ rfl (fun wy hy=>by rw [hy];exact HKu.out.cell rfl) hS ?_;simp only [pA,pB,pC,pD];refine ty 12 ⟨some 38,_,_,_,_,some (4,false)⟩ (.bool false) rfl (by rfl) ?_ hS ?_
      ·intro wy hy
       clear hy
       (first | (go_simp;done) | (go_simp;rw [hev];done) | (go_simp;simp [hev];done))
      simp only [pA,pB,pC,pD];refine tz 13 39 (.bool false) rfl hS ?_;simp only [pA,pB,pC,pD];refine td ?_;clear hS;go_wp2_with fail;go_meet;exact ⟨false,rfl,(fun e=>by cases e),(fun _=>⟨y,HY.out,HYX.out⟩),HOU.out.drew,HKu.out.drew,hBu.drew⟩
     have hev:(y.service.toList == c.service.toList)=false:=Gj hyx;refine wp_region_held_drew (S:=fun wy=>wy=wu.drew) (by kernel_rfl) rfl (fun hS=>?_);refine tz 0 26 (.int .i64 k) rfl hS ?_;simp only [pA,pB,pC,pD];refine tz 1 27 (.slice (some ⟨gu,0,none⟩) xs.length qu) rfl hS ?_;simp only [pA,pB,pC,pD];refine tz 2 28 (.int .i64 xs.length) rfl hS ?_;simp only [pA,pB,pC,pD];refine ty 3 ⟨some 29,_,_,_,_,none⟩ (.bool false) rfl (by rfl) ?_ hS ?_
     ·intro wy hy
      clear hy
      (first | (go_simp;done) | (go_simp;omega) | (go_simp;simp;omega))
     simp only [pA,pB,pC,pD];refine tz 4 30 (.bool false) rfl hS ?_;simp only [pA,pB,pC,pD];refine tz 5 31 (.slice (some ⟨gu,0,none⟩) xs.length qu) rfl hS ?_;simp only [pA,pB,pC,pD];refine tz 6 32 (.int .i64 k) rfl hS ?_;simp only [pA,pB,pC,pD];refine x2 7 33 (.pointer (some ⟨gu,k*4,none⟩)) rfl hS ?_;simp only [pA,pB,pC,pD];refine tz 8 34 (.pointer (some ⟨gu,k*4,none⟩)) rfl hS ?_;simp only [pA,pB,pC,pD];refine tl 9 35 (.string y.service) ⟨gu,k*4,none⟩ rfl (fun wy hy=>by rw [hy];exact q0) hS ?_;simp only [pA,pB,pC,pD];refine tz 10 36 (.pointer (some ⟨w.heap.size,1,none⟩)) rfl hS ?_;simp only [pA,pB,pC,pD];refine tl 11 37 (.string c.service) ⟨w.heap.size,1,none⟩ rfl (fun wy hy=>by rw [hy];exact HKu.out.cell rfl) hS ?_;simp only [pA,pB,pC,pD];refine ty 12 ⟨some 38,_,_,_,_,some (4,false)⟩ (.bool true) rfl (by rfl) ?_ hS ?_
     ·intro wy hy
      clear hy
      (first | (go_simp;done) | (go_simp;rw [hev];done) | (go_simp;simp [hev];done))
     simp only [pA,pB,pC,pD];refine tz 13 39 (.bool true) rfl hS ?_;simp only [pA,pB,pC,pD];refine td ?_;clear hS;go_wp2_with fail;go_meet;exact ⟨true,rfl,(fun _ z hz=>by rw [HY.out] at hz;cases hz;exact hyx),(fun e=>by cases e),HOU.out.drew,HKu.out.drew,hBu.drew⟩
    case rest =>
     obtain ⟨bv,rfl,HT,HF,HO3,HK3,hB3⟩:=hcut;clear HOU HKu hBu;generalize wc=w3 at *
     go_upto_if 39 with fail
     go_cut [6] (fun v wq=>∃ (g m q:Nat) (ys:List Cnt) (y:Cnt),v=.slice (some ⟨g,0,none⟩) m q∧Hid (ys.length=m)∧m≤1000∧k<m∧w.heap.size<g∧Hid (bW xs c k ys y)∧Jt 1000 y∧Hid (wq.ownsRow w.heap.size 125 4 (.slice (some ⟨g,0,none⟩) m q) m (Am ys))∧Hid (Blk w.heap.size #[.string c.name,.string c.service,.int .i64 c.rank,.int .i64 c.born,.int .i64 c.room,.int .i64 c.hold,.string c.select,.slice ae c.likes.length ce,.int .i64 c.apart,.string c.near,.string c.fixed,.string c.at_] 83 wq)∧Below w.heap.size w wq)
     case first =>
      cases bv with
      | false =>
       obtain ⟨y,hy,hyx⟩:=HF.out rfl;have hlt:=Ad hy;have HSP:=iH (bE HAS.out HL.out hy hyx);have hsy:=HSM.out y (List.mem_of_getElem? hy);clear hy hyx HT HF;go_wp2_with fail;go_meet;exact ⟨gu,xs.length,qu,xs,y,rfl,iH rfl,by omega,hlt,hgu,HSP,hsy,HO3,HK3,hB3⟩
      | true =>
       have HSP:Hid (bW xs c k (xs.take k++⟨c.service,0,0,0⟩::xs.drop k) ⟨c.service,0,0,0⟩):=Ux HAS.out hk HL.out HNO.out (HT.out rfl);clear HT HF HO3;obtain ⟨rb,hrb,HRB⟩:∃ rb:Addr,(if cap=k then some (⟨b,o,none⟩:Addr) else some ⟨b,o+k*4,none⟩)=some rb∧Hid (∀ wy,Below w.heap.size w wy→∀ t u,(Am (xs.drop k))[t]?=some u→wy.cell? (rb.add t)=some u):=by
        split
        ·refine ⟨_,rfl,fun _ _ t u h=>?_⟩
         rw [List.drop_eq_nil_of_le (by omega)] at h;simp [Am] at h
        ·exact ⟨_,rfl,fun wy hy t u h=>by rw [Addr.add_mid];have:=HC0.out wy hy (k*4+t) u (by rw [← Wz xs k t];exact h);rw [Addr.add_mid] at this;rw [Nat.add_assoc];exact this⟩
       go_upto_region 6 with fail;have HKd:=iH HK3.out.drew;have hBd:=hB3.drew;clear HK3 hB3;obtain ⟨w1,hw1⟩:∃ w1,w1=w3.drew:=⟨_,rfl⟩;rw [← hw1] at HKd hBd;refine wp_region_held_drew (S:=fun wy=>Below w1.heap.size w1 wy) (by kernel_rfl) (by rw [hw1];exact Below.refl _ _) (fun hS=>?_);generalize w3.drew=wn at *;clear hw1;have HC1:Hid (∀ wy,Below w1.heap.size w1 wy→∀ t u,(Am (xs.take k))[t]?=some u→wy.cell? ((⟨b,o,none⟩:Addr).add t)=some u):=fun wy hy t u h=>HC0.out wy (hBd.trans (hy.mono hBd.size)) t u (Wy xs k t h)
       have HC3:Hid (∀ wy,Below w1.heap.size w1 wy→∀ t u,(Am (xs.drop k))[t]?=some u→wy.cell? (rb.add t)=some u):=fun wy hy=>HRB.out wy (hBd.trans (hy.mono hBd.size))
       obtain ⟨m3,hm3⟩:∃ m3,m3=xs.length - k:=⟨_,rfl⟩;obtain ⟨c3,hc3⟩:∃ c3,c3=cap - k:=⟨_,rfl⟩;have HM3:=iH hm3;have hm3b:m3≤100:=by omega
       refine tz 1 41 (.slice (some ⟨b,o,none⟩) xs.length cap) rfl hS ?_;simp only [pA,pB,pC,pD];refine tz 2 42 (.int .i64 k) rfl hS ?_;simp only [pA,pB,pC,pD];refine x2 3 43 (.slice (some ⟨b,o,none⟩) k cap) rfl hS ?_;simp only [pA,pB,pC,pD];refine tz 5 45 (.pointer (some ⟨w.heap.size,1,none⟩)) rfl hS ?_;simp only [pA,pB,pC,pD];refine tl 6 46 (.string c.service) ⟨w.heap.size,1,none⟩ rfl (fun wy hy=>(HKd.out.below hy HKd.out.lt).cell rfl) hS ?_;simp only [pA,pB,pC,pD];refine tz 7 47 (.agg #[.string c.service,.int .i64 0,.int .i64 0,.int .i64 0]) rfl hS ?_;simp only [pA,pB,pC,pD];refine tz 10 50 (.slice (some ⟨b,o,none⟩) xs.length cap) rfl hS ?_;simp only [pA,pB,pC,pD];refine tz 11 51 (.int .i64 k) rfl hS ?_;simp only [pA,pB,pC,pD];refine ty 12 ⟨some 52,_,_,_,_,none⟩ (.slice (some rb) m3 c3) rfl (by rfl) ?_ hS ?_
       ·intro wy hy
        clear hy
        (first | (go_simp;done) | (go_simp;rw [← hm3,← hc3,hrb];done) | (go_simp;simp [hrb,← hm3,← hc3];try omega))
       simp only [pA,pB,pC,pD];clear hm3 hc3 hrb;refine wpAnyH_ready (rs:=[0,8]) (by kernel_rfl) (by simp) (AllReadyH.cons (o:=⟨some 40,_,_,_,_,none⟩) rfl (fun KK hKK=>?_) (AllReadyH.cons (o:=⟨some 48,_,_,_,_,none⟩) rfl (fun KK hKK=>?_) AllReadyH.nil))
       ·skip
        go_simp;have hal:Below wn.heap.size wn (wn.alloc (Obj.cells #[] 125)):=(Below.refl _ _).alloc nL _;have HR:Hid ((wn.alloc (Obj.cells #[] 125)).ownsRow w1.heap.size 125 4 (.slice (some ⟨wn.heap.size,0,none⟩) 0 0) 0 []):=World.ownsRow_made wn #[] 0 hS.size (Nat.zero_le _) rfl;refine hKK.out _ _ (hS.trans (hal.mono hS.size)) (fun hS=>?_);clear hKK KK hal;generalize wn.alloc (Obj.cells #[] 125)=wm at *;generalize wn.heap.size=g1 at *;generalize wm=wn at *;refine wpAnyH_ready (rs:=[4,8]) (by kernel_rfl) (by simp) (AllReadyH.cons (o:=⟨some 44,_,_,_,_,none⟩) rfl (fun KK hKK=>?_) (AllReadyH.cons (o:=⟨some 48,_,_,_,_,none⟩) rfl (fun KK hKK=>?_) AllReadyH.nil))
        ·skip
         have HNN:Hid (∀ ad:Addr,some (⟨b,o,none⟩:Addr)=some ad→∀ (t:Nat) (u:Value),(Am (xs.take k))[t]?=some u→wn.cell? (ad.add t)=some u):=fun ad e=>by cases e;exact HC1.out wn hS
         have hgj:=(HR.out.lt g1 rfl).1;rw [if_pos (by rfl)];refine Ar (.tmp 40) (.tmp 43) 30 (by rfl) w1.heap.size 125 i0 _ 4 40 Tryz.underlying30 HI0.out hz0 hz1 hz2 rfl (by decide) _ 0 _ (by rfl) HR.out (some ⟨b,o,none⟩) k cap (Am (xs.take k)) (by rfl) (fun e=>by cases e) (by rw [Cl,List.length_take];omega) HNN.out (Cb _) (by unfold maxLen;omega) (by omega) hS.size ?_;intro v' wq hown hgrow hnil hblk;have hv:v'≠.slice none 0 0:=(fun e=>by have h9:=(hnil.1 e).1;cases h9);simp only [Nat.zero_add,List.nil_append] at hown;obtain ⟨e1,f1,rfl⟩:=Dd hown hv;have hgr:wn.grownBy wq (some g1):=hgrow;have hbe:e1=g1∨e1=wn.heap.size:=by
          rcases hblk with h9 | h9
          ·exact .inl (Option.some.inj h9)
          ·exact .inr (Option.some.inj h9)
         replace HR:=iH hown;have hS2:Below w1.heap.size w1 wq:=hS.grown hgr hS.size (fun t e=>by cases e;exact hgj);refine hKK.out _ _ hS2 (fun hS=>?_);clear hKK KK hown hgrow hnil hblk hv hgr hbe hgj HNN hS2;generalize wq=wn at *;refine rd1 8 ⟨some 48,_,_,_,_,none⟩ rfl (fun KK hKK=>?_);go_simp;have hal:Below wn.heap.size wn (wn.alloc (Obj.cells #[.string c.service,.int .i64 0,.int .i64 0,.int .i64 0] 125)):=(Below.refl _ _).alloc nL _;have HN2:Hid (Blk wn.heap.size #[.string c.service,.int .i64 0,.int .i64 0,.int .i64 0] 125 (wn.alloc (Obj.cells #[.string c.service,.int .i64 0,.int .i64 0,.int .i64 0] 125))):=Blk.alloc _ _ _;have hn2:wn.heap.size≠e1:=by have h9:=(HR.out.lt e1 rfl).2;omega
         replace HR:=iH (HR.out.alloc (Obj.cells #[.string c.service,.int .i64 0,.int .i64 0,.int .i64 0] 125));refine hKK.out _ _ (hS.trans (hal.mono hS.size)) (fun hS=>?_);clear hKK KK hal;generalize wn.alloc (Obj.cells #[.string c.service,.int .i64 0,.int .i64 0,.int .i64 0] 125)=wm at *;generalize wn.heap.size=g2 at *;generalize wm=wn at *;refine rd1 9 ⟨some 49,_,_,_,_,none⟩ rfl (fun KK hKK=>?_);have HNN:Hid (∀ ad:Addr,some (⟨g2,0,none⟩:Addr)=some ad→∀ (t:Nat) (u:Value),(Cw ⟨c.service,0,0,0⟩)[t]?=some u→wn.cell? (ad.add t)=some u):=fun ad e t u hu=>by cases e;rw [Addr.add_mid];exact HN2.out.rangeA t u hu
         have hgj:=(HR.out.lt e1 rfl).1;rw [if_pos (by rfl)];refine Ar (.tmp 44) (.tmp 48) 30 (by rfl) w1.heap.size 125 i0 _ 4 40 Tryz.underlying30 HI0.out hz0 hz1 hz2 rfl (by decide) _ k _ (by rfl) HR.out (some ⟨g2,0,none⟩) 1 1 (Cw ⟨c.service,0,0,0⟩) (by rfl) (fun e=>by cases e) rfl HNN.out (fun u hu=>Cb [⟨c.service,0,0,0⟩] u (by simp only [Am,List.append_nil];exact hu)) (by unfold maxLen;omega) (by omega) hS.size ?_;intro v' wq hown hgrow hnil hblk;have hv:v'≠.slice none 0 0:=(fun e=>by have h9:=(hnil.1 e).1;cases h9);skip;obtain ⟨e2,f2,rfl⟩:=Dd hown hv;have hgr:wn.grownBy wq (some e1):=hgrow;have hbe:e2=e1∨e2=wn.heap.size:=by
          rcases hblk with h9 | h9
          ·exact .inl (Option.some.inj h9)
          ·exact .inr (Option.some.inj h9)
         replace HR:=iH hown;have hS2:Below w1.heap.size w1 wq:=hS.grown hgr hS.size (fun t e=>by cases e;exact hgj);refine hKK.out _ _ hS2 (fun hS=>?_);clear hKK KK hown hgrow hnil hblk hv hgr hbe hgj HNN hS2;generalize wq=wn at *;refine rd1 13 ⟨some 53,_,_,_,_,none⟩ rfl (fun KK hKK=>?_);have HNN:Hid (∀ ad:Addr,some rb=some ad→∀ (t:Nat) (u:Value),(Am (xs.drop k))[t]?=some u→wn.cell? (ad.add t)=some u):=fun ad e=>by cases e;exact HC3.out wn hS
         have hgj:=(HR.out.lt e2 rfl).1;rw [if_pos (by rfl)];refine Ar (.tmp 49) (.tmp 52) 30 (by rfl) w1.heap.size 125 i0 _ 4 40 Tryz.underlying30 HI0.out hz0 hz1 hz2 rfl (by decide) _ (k+1) _ (by rfl) HR.out (some rb) m3 c3 (Am (xs.drop k)) (by rfl) (fun e=>by cases e) (by rw [Cl,List.length_drop,← HM3.out]) HNN.out (Cb _) (by unfold maxLen;omega) (by omega) hS.size ?_;intro v' wq hown hgrow hnil hblk;have hv:v'≠.slice none 0 0:=(fun e=>by have h9:=(hnil.1 e).1;cases h9);skip;obtain ⟨e3,f3,rfl⟩:=Dd hown hv;have hgr:wn.grownBy wq (some e2):=hgrow;have hbe:e3=e2∨e3=wn.heap.size:=by
          rcases hblk with h9 | h9
          ·exact .inl (Option.some.inj h9)
          ·exact .inr (Option.some.inj h9)
         replace HR:=iH hown;have hS2:Below w1.heap.size w1 wq:=hS.grown hgr hS.size (fun t e=>by cases e;exact hgj);refine hKK.out _ _ hS2 (fun hS=>?_);clear hKK KK hown hgrow hnil hblk hv hgr hbe hgj HNN hS2;generalize wq=wn at *;have he3:w.heap.size<e3:=by have h9:=Ih HR.out;have:=HKd.out.lt;omega
         have hBn:=hBd.trans (hS.mono hBd.size);have HKn:=iH (HKd.out.below hS HKd.out.lt);have HLN:Hid ((xs.take k++⟨c.service,0,0,0⟩::xs.drop k).length=(k+1+m3)):=by show _=_;rw [List.length_append,List.length_take,List.length_cons,List.length_drop];have:=HM3.out;omega
         have HR9:Hid (wn.ownsRow w.heap.size 125 4 (.slice (some ⟨e3,0,none⟩) (k+1+m3) f3) (k+1+m3) (Am (xs.take k++⟨c.service,0,0,0⟩::xs.drop k))):=by
          show World.ownsRow _ _ _ _ _ _ _
          have h9:=Bd HR.out hBd.size;rw [Eu,show Am (⟨c.service,0,0,0⟩::xs.drop k)=Cw ⟨c.service,0,0,0⟩++Am (xs.drop k) from rfl,← List.append_assoc];exact h9
         refine tz 14 6 (.slice (some ⟨e3,0,none⟩) (k+1+m3) f3) rfl hS ?_;simp only [pA,pB,pC,pD];refine td ?_;clear hS;go_wp2_with fail;go_meet;exact ⟨e3,(k+1+m3),f3,(xs.take k++⟨c.service,0,0,0⟩::xs.drop k),⟨c.service,0,0,0⟩,rfl,HLN,by omega,by omega,he3,HSP,⟨hc,by simp,by simp,by simp,by simp,by simp,by simp⟩,HR9,HKn,hBn⟩
        ·skip
         go_simp;have hal:Below wn.heap.size wn (wn.alloc (Obj.cells #[.string c.service,.int .i64 0,.int .i64 0,.int .i64 0] 125)):=(Below.refl _ _).alloc nL _;have HN2:Hid (Blk wn.heap.size #[.string c.service,.int .i64 0,.int .i64 0,.int .i64 0] 125 (wn.alloc (Obj.cells #[.string c.service,.int .i64 0,.int .i64 0,.int .i64 0] 125))):=Blk.alloc _ _ _;have hn2:wn.heap.size≠g1:=by have h9:=(HR.out.lt g1 rfl).2;omega
         replace HR:=iH (HR.out.alloc (Obj.cells #[.string c.service,.int .i64 0,.int .i64 0,.int .i64 0] 125));refine hKK.out _ _ (hS.trans (hal.mono hS.size)) (fun hS=>?_);clear hKK KK hal;generalize wn.alloc (Obj.cells #[.string c.service,.int .i64 0,.int .i64 0,.int .i64 0] 125)=wm at *;generalize wn.heap.size=g2 at *;generalize wm=wn at *;refine rd1 4 ⟨some 44,_,_,_,_,none⟩ rfl (fun KK hKK=>?_);have HNN:Hid (∀ ad:Addr,some (⟨b,o,none⟩:Addr)=some ad→∀ (t:Nat) (u:Value),(Am (xs.take k))[t]?=some u→wn.cell? (ad.add t)=some u):=fun ad e=>by cases e;exact HC1.out wn hS
         have hgj:=(HR.out.lt g1 rfl).1;rw [if_pos (by rfl)];refine Ar (.tmp 40) (.tmp 43) 30 (by rfl) w1.heap.size 125 i0 _ 4 40 Tryz.underlying30 HI0.out hz0 hz1 hz2 rfl (by decide) _ 0 _ (by rfl) HR.out (some ⟨b,o,none⟩) k cap (Am (xs.take k)) (by rfl) (fun e=>by cases e) (by rw [Cl,List.length_take];omega) HNN.out (Cb _) (by unfold maxLen;omega) (by omega) hS.size ?_;intro v' wq hown hgrow hnil hblk;have hv:v'≠.slice none 0 0:=(fun e=>by have h9:=(hnil.1 e).1;cases h9);simp only [Nat.zero_add,List.nil_append] at hown;obtain ⟨e1,f1,rfl⟩:=Dd hown hv;have hgr:wn.grownBy wq (some g1):=hgrow;have hbe:e1=g1∨e1=wn.heap.size:=by
          rcases hblk with h9 | h9
          ·exact .inl (Option.some.inj h9)
          ·exact .inr (Option.some.inj h9)
         have hn4:e1≠g2:=by have h9:=HN2.out.lt;omega
         replace HN2:=iH (HN2.out.grown hgr (fun e=>by have:=Option.some.inj e;omega));replace HR:=iH hown;have hS2:Below w1.heap.size w1 wq:=hS.grown hgr hS.size (fun t e=>by cases e;exact hgj);refine hKK.out _ _ hS2 (fun hS=>?_);clear hKK KK hown hgrow hnil hblk hv hgr hbe hgj HNN hS2;generalize wq=wn at *;refine rd1 9 ⟨some 49,_,_,_,_,none⟩ rfl (fun KK hKK=>?_);have HNN:Hid (∀ ad:Addr,some (⟨g2,0,none⟩:Addr)=some ad→∀ (t:Nat) (u:Value),(Cw ⟨c.service,0,0,0⟩)[t]?=some u→wn.cell? (ad.add t)=some u):=fun ad e t u hu=>by cases e;rw [Addr.add_mid];exact HN2.out.rangeA t u hu
         have hgj:=(HR.out.lt e1 rfl).1;rw [if_pos (by rfl)];refine Ar (.tmp 44) (.tmp 48) 30 (by rfl) w1.heap.size 125 i0 _ 4 40 Tryz.underlying30 HI0.out hz0 hz1 hz2 rfl (by decide) _ k _ (by rfl) HR.out (some ⟨g2,0,none⟩) 1 1 (Cw ⟨c.service,0,0,0⟩) (by rfl) (fun e=>by cases e) rfl HNN.out (fun u hu=>Cb [⟨c.service,0,0,0⟩] u (by simp only [Am,List.append_nil];exact hu)) (by unfold maxLen;omega) (by omega) hS.size ?_;intro v' wq hown hgrow hnil hblk;have hv:v'≠.slice none 0 0:=(fun e=>by have h9:=(hnil.1 e).1;cases h9);skip;obtain ⟨e2,f2,rfl⟩:=Dd hown hv;have hgr:wn.grownBy wq (some e1):=hgrow;have hbe:e2=e1∨e2=wn.heap.size:=by
          rcases hblk with h9 | h9
          ·exact .inl (Option.some.inj h9)
          ·exact .inr (Option.some.inj h9)
         replace HR:=iH hown;have hS2:Below w1.heap.size w1 wq:=hS.grown hgr hS.size (fun t e=>by cases e;exact hgj);refine hKK.out _ _ hS2 (fun hS=>?_);clear hKK KK hown hgrow hnil hblk hv hgr hbe hgj HNN hS2;generalize wq=wn at *;refine rd1 13 ⟨some 53,_,_,_,_,none⟩ rfl (fun KK hKK=>?_);have HNN:Hid (∀ ad:Addr,some rb=some ad→∀ (t:Nat) (u:Value),(Am (xs.drop k))[t]?=some u→wn.cell? (ad.add t)=some u):=fun ad e=>by cases e;exact HC3.out wn hS
         have hgj:=(HR.out.lt e2 rfl).1;rw [if_pos (by rfl)];refine Ar (.tmp 49) (.tmp 52) 30 (by rfl) w1.heap.size 125 i0 _ 4 40 Tryz.underlying30 HI0.out hz0 hz1 hz2 rfl (by decide) _ (k+1) _ (by rfl) HR.out (some rb) m3 c3 (Am (xs.drop k)) (by rfl) (fun e=>by cases e) (by rw [Cl,List.length_drop,← HM3.out]) HNN.out (Cb _) (by unfold maxLen;omega) (by omega) hS.size ?_;intro v' wq hown hgrow hnil hblk;have hv:v'≠.slice none 0 0:=(fun e=>by have h9:=(hnil.1 e).1;cases h9);skip;obtain ⟨e3,f3,rfl⟩:=Dd hown hv;have hgr:wn.grownBy wq (some e2):=hgrow;have hbe:e3=e2∨e3=wn.heap.size:=by
          rcases hblk with h9 | h9
          ·exact .inl (Option.some.inj h9)
          ·exact .inr (Option.some.inj h9)
         replace HR:=iH hown;have hS2:Below w1.heap.size w1 wq:=hS.grown hgr hS.size (fun t e=>by cases e;exact hgj);refine hKK.out _ _ hS2 (fun hS=>?_);clear hKK KK hown hgrow hnil hblk hv hgr hbe hgj HNN hS2;generalize wq=wn at *;have he3:w.heap.size<e3:=by have h9:=Ih HR.out;have:=HKd.out.lt;omega
         have hBn:=hBd.trans (hS.mono hBd.size);have HKn:=iH (HKd.out.below hS HKd.out.lt);have HLN:Hid ((xs.take k++⟨c.service,0,0,0⟩::xs.drop k).length=(k+1+m3)):=by show _=_;rw [List.length_append,List.length_take,List.length_cons,List.length_drop];have:=HM3.out;omega
         have HR9:Hid (wn.ownsRow w.heap.size 125 4 (.slice (some ⟨e3,0,none⟩) (k+1+m3) f3) (k+1+m3) (Am (xs.take k++⟨c.service,0,0,0⟩::xs.drop k))):=by
          show World.ownsRow _ _ _ _ _ _ _
          have h9:=Bd HR.out hBd.size;rw [Eu,show Am (⟨c.service,0,0,0⟩::xs.drop k)=Cw ⟨c.service,0,0,0⟩++Am (xs.drop k) from rfl,← List.append_assoc];exact h9
         refine tz 14 6 (.slice (some ⟨e3,0,none⟩) (k+1+m3) f3) rfl hS ?_;simp only [pA,pB,pC,pD];refine td ?_;clear hS;go_wp2_with fail;go_meet;exact ⟨e3,(k+1+m3),f3,(xs.take k++⟨c.service,0,0,0⟩::xs.drop k),⟨c.service,0,0,0⟩,rfl,HLN,by omega,by omega,he3,HSP,⟨hc,by simp,by simp,by simp,by simp,by simp,by simp⟩,HR9,HKn,hBn⟩
       ·skip
        go_simp;have hal:Below wn.heap.size wn (wn.alloc (Obj.cells #[.string c.service,.int .i64 0,.int .i64 0,.int .i64 0] 125)):=(Below.refl _ _).alloc nL _;have HN2:Hid (Blk wn.heap.size #[.string c.service,.int .i64 0,.int .i64 0,.int .i64 0] 125 (wn.alloc (Obj.cells #[.string c.service,.int .i64 0,.int .i64 0,.int .i64 0] 125))):=Blk.alloc _ _ _;refine hKK.out _ _ (hS.trans (hal.mono hS.size)) (fun hS=>?_);clear hKK KK hal;generalize wn.alloc (Obj.cells #[.string c.service,.int .i64 0,.int .i64 0,.int .i64 0] 125)=wm at *;generalize wn.heap.size=g2 at *;generalize wm=wn at *;refine rd1 0 ⟨some 40,_,_,_,_,none⟩ rfl (fun KK hKK=>?_);go_simp;have hal:Below wn.heap.size wn (wn.alloc (Obj.cells #[] 125)):=(Below.refl _ _).alloc nL _;have HR:Hid ((wn.alloc (Obj.cells #[] 125)).ownsRow w1.heap.size 125 4 (.slice (some ⟨wn.heap.size,0,none⟩) 0 0) 0 []):=World.ownsRow_made wn #[] 0 hS.size (Nat.zero_le _) rfl;have hn2:g2≠wn.heap.size:=by have h9:=HN2.out.lt;omega
        replace HN2:=iH (HN2.out.below hal HN2.out.lt);refine hKK.out _ _ (hS.trans (hal.mono hS.size)) (fun hS=>?_);clear hKK KK hal;generalize wn.alloc (Obj.cells #[] 125)=wm at *;generalize wn.heap.size=g1 at *;generalize wm=wn at *;refine rd1 4 ⟨some 44,_,_,_,_,none⟩ rfl (fun KK hKK=>?_);have HNN:Hid (∀ ad:Addr,some (⟨b,o,none⟩:Addr)=some ad→∀ (t:Nat) (u:Value),(Am (xs.take k))[t]?=some u→wn.cell? (ad.add t)=some u):=fun ad e=>by cases e;exact HC1.out wn hS
        have hgj:=(HR.out.lt g1 rfl).1;rw [if_pos (by rfl)];refine Ar (.tmp 40) (.tmp 43) 30 (by rfl) w1.heap.size 125 i0 _ 4 40 Tryz.underlying30 HI0.out hz0 hz1 hz2 rfl (by decide) _ 0 _ (by rfl) HR.out (some ⟨b,o,none⟩) k cap (Am (xs.take k)) (by rfl) (fun e=>by cases e) (by rw [Cl,List.length_take];omega) HNN.out (Cb _) (by unfold maxLen;omega) (by omega) hS.size ?_;intro v' wq hown hgrow hnil hblk;have hv:v'≠.slice none 0 0:=(fun e=>by have h9:=(hnil.1 e).1;cases h9);simp only [Nat.zero_add,List.nil_append] at hown;obtain ⟨e1,f1,rfl⟩:=Dd hown hv;have hgr:wn.grownBy wq (some g1):=hgrow;have hbe:e1=g1∨e1=wn.heap.size:=by
         rcases hblk with h9 | h9
         ·exact .inl (Option.some.inj h9)
         ·exact .inr (Option.some.inj h9)
        have hn4:e1≠g2:=by have h9:=HN2.out.lt;omega
        replace HN2:=iH (HN2.out.grown hgr (fun e=>by have:=Option.some.inj e;omega));replace HR:=iH hown;have hS2:Below w1.heap.size w1 wq:=hS.grown hgr hS.size (fun t e=>by cases e;exact hgj);refine hKK.out _ _ hS2 (fun hS=>?_);clear hKK KK hown hgrow hnil hblk hv hgr hbe hgj HNN hS2;generalize wq=wn at *;refine rd1 9 ⟨some 49,_,_,_,_,none⟩ rfl (fun KK hKK=>?_);have HNN:Hid (∀ ad:Addr,some (⟨g2,0,none⟩:Addr)=some ad→∀ (t:Nat) (u:Value),(Cw ⟨c.service,0,0,0⟩)[t]?=some u→wn.cell? (ad.add t)=some u):=fun ad e t u hu=>by cases e;rw [Addr.add_mid];exact HN2.out.rangeA t u hu
        have hgj:=(HR.out.lt e1 rfl).1;rw [if_pos (by rfl)];refine Ar (.tmp 44) (.tmp 48) 30 (by rfl) w1.heap.size 125 i0 _ 4 40 Tryz.underlying30 HI0.out hz0 hz1 hz2 rfl (by decide) _ k _ (by rfl) HR.out (some ⟨g2,0,none⟩) 1 1 (Cw ⟨c.service,0,0,0⟩) (by rfl) (fun e=>by cases e) rfl HNN.out (fun u hu=>Cb [⟨c.service,0,0,0⟩] u (by simp only [Am,List.append_nil];exact hu)) (by unfold maxLen;omega) (by omega) hS.size ?_;intro v' wq hown hgrow hnil hblk;have hv:v'≠.slice none 0 0:=(fun e=>by have h9:=(hnil.1 e).1;cases h9);skip;obtain ⟨e2,f2,rfl⟩:=Dd hown hv;have hgr:wn.grownBy wq (some e1):=hgrow;have hbe:e2=e1∨e2=wn.heap.size:=by
         rcases hblk with h9 | h9
         ·exact .inl (Option.some.inj h9)
         ·exact .inr (Option.some.inj h9)
        replace HR:=iH hown;have hS2:Below w1.heap.size w1 wq:=hS.grown hgr hS.size (fun t e=>by cases e;exact hgj);refine hKK.out _ _ hS2 (fun hS=>?_);clear hKK KK hown hgrow hnil hblk hv hgr hbe hgj HNN hS2;generalize wq=wn at *;refine rd1 13 ⟨some 53,_,_,_,_,none⟩ rfl (fun KK hKK=>?_);have HNN:Hid (∀ ad:Addr,some rb=some ad→∀ (t:Nat) (u:Value),(Am (xs.drop k))[t]?=some u→wn.cell? (ad.add t)=some u):=fun ad e=>by cases e;exact HC3.out wn hS
        have hgj:=(HR.out.lt e2 rfl).1;rw [if_pos (by rfl)];refine Ar (.tmp 49) (.tmp 52) 30 (by rfl) w1.heap.size 125 i0 _ 4 40 Tryz.underlying30 HI0.out hz0 hz1 hz2 rfl (by decide) _ (k+1) _ (by rfl) HR.out (some rb) m3 c3 (Am (xs.drop k)) (by rfl) (fun e=>by cases e) (by rw [Cl,List.length_drop,← HM3.out]) HNN.out (Cb _) (by unfold maxLen;omega) (by omega) hS.size ?_;intro v' wq hown hgrow hnil hblk;have hv:v'≠.slice none 0 0:=(fun e=>by have h9:=(hnil.1 e).1;cases h9);skip;obtain ⟨e3,f3,rfl⟩:=Dd hown hv;have hgr:wn.grownBy wq (some e2):=hgrow;have hbe:e3=e2∨e3=wn.heap.size:=by
         rcases hblk with h9 | h9
         ·exact .inl (Option.some.inj h9)
         ·exact .inr (Option.some.inj h9)
        replace HR:=iH hown;have hS2:Below w1.heap.size w1 wq:=hS.grown hgr hS.size (fun t e=>by cases e;exact hgj);refine hKK.out _ _ hS2 (fun hS=>?_);clear hKK KK hown hgrow hnil hblk hv hgr hbe hgj HNN hS2;generalize wq=wn at *;have he3:w.heap.size<e3:=by have h9:=Ih HR.out;have:=HKd.out.lt;omega
        have hBn:=hBd.trans (hS.mono hBd.size);have HKn:=iH (HKd.out.below hS HKd.out.lt);have HLN:Hid ((xs.take k++⟨c.service,0,0,0⟩::xs.drop k).length=(k+1+m3)):=by show _=_;rw [List.length_append,List.length_take,List.length_cons,List.length_drop];have:=HM3.out;omega
        have HR9:Hid (wn.ownsRow w.heap.size 125 4 (.slice (some ⟨e3,0,none⟩) (k+1+m3) f3) (k+1+m3) (Am (xs.take k++⟨c.service,0,0,0⟩::xs.drop k))):=by
         show World.ownsRow _ _ _ _ _ _ _
         have h9:=Bd HR.out hBd.size;rw [Eu,show Am (⟨c.service,0,0,0⟩::xs.drop k)=Cw ⟨c.service,0,0,0⟩++Am (xs.drop k) from rfl,← List.append_assoc];exact h9
        refine tz 14 6 (.slice (some ⟨e3,0,none⟩) (k+1+m3) f3) rfl hS ?_;simp only [pA,pB,pC,pD];refine td ?_;clear hS;go_wp2_with fail;go_meet;exact ⟨e3,(k+1+m3),f3,(xs.take k++⟨c.service,0,0,0⟩::xs.drop k),⟨c.service,0,0,0⟩,rfl,HLN,by omega,by omega,he3,HSP,⟨hc,by simp,by simp,by simp,by simp,by simp,by simp⟩,HR9,HKn,hBn⟩
     case rest =>
      clear HT HF HO3 HK3 hB3;obtain ⟨g,m,q,ys,y,rfl,HML,hm1,hkm,hgs,HSP,hsy,HO,HK,hB⟩:=hcut;generalize wc=w4 at *;obtain ⟨_,y0,y1,y2,y3,y4,y5⟩:=hsy;have hgb:w.heap.size≤g:=Ih HO.out;have hne:w.heap.size≠g:=by omega
      have i0:(0:Int)≤(k:Int):=by omega
      have i1:(k:Int)<(m:Int):=by omega
      have HYK:=iH HSP.out.at_;have n1:w4.cell? ⟨g,k*4+1,none⟩=some (.int .i64 y.n):=by have h9:=HO.out.cellAt (k*4+1) (by omega);rw [Ds ys k y 1 HYK.out (by omega)] at h9;exact h9
      have g1:=HO.out.frozenAt (k*4+1);go_upto_region 8 with fail;have HO1:Hid ((w4.setCell ⟨g,k*4+1,none⟩ (.int .i64 (y.n+1))).ownsRow w.heap.size 125 4 (.slice (some ⟨g,0,none⟩) m q) m (Am (ys.set k { y with n:=y.n+1 }))):=by have h9:=(HO.out.stored (k*4+1) (.int .i64 (y.n+1))).1;rw [Kk ys k y _ HYK.out] at h9;exact h9
      have HK1:=iH (HK.out.other (a:=⟨g,k*4+1,none⟩) hne (.int .i64 (y.n+1)));have hB1:=Bf hB hgb (k*4+1) (.int .i64 (y.n+1));clear n1 g1 HO HK hB;generalize w4.setCell ⟨g,k*4+1,none⟩ (.int .i64 (y.n+1))=w5 at *;obtain ⟨y1s,hy1s⟩:∃ z:Cnt,z={ y with n:=y.n+1 }:=⟨_,rfl⟩;rw [← hy1s] at HO1;have HYE:=iH hy1s;have e2:y1s.apart=y.apart:=by rw [hy1s]
      have e3:y1s.zone=y.zone:=by rw [hy1s]
      have HE2:=iH e2;have HE3:=iH e3;clear hy1s e2 e3;have HY1:Hid ((ys.set k y1s)[k]?=some y1s):=by show _=_;rw [List.getElem?_set_self (by have:=HML.out;omega)]
      have k8:w5.cell? ⟨w.heap.size,8,none⟩=some (.int .i64 c.apart):=HK1.out.cell rfl;have n2:w5.cell? ⟨g,k*4+2,none⟩=some (.int .i64 y.apart):=by have h9:=HO1.out.cellAt (k*4+2) (by omega);rw [Ds _ k y1s 2 HY1.out (by omega)] at h9;rw [← HE2.out];exact h9
      have g2:=HO1.out.frozenAt (k*4+2);by_cases ha:c.apart=0
      case pos =>
       have HE:=iH ha;have e1:(c.apart == 0)=true:=by rw [ha];rfl
       have e2:decide (c.apart=0)=true:=decide_eq_true ha;have e3:(c.apart == 2)=false:=by rw [ha];rfl
       have e4:decide (c.apart=2)=false:=by rw [ha];rfl
       clear ha;go_wp2_with fail;go_ret;have HAD:Hid (Bh xs c=ys.set k y1s):=by show _=_;rw [HSP.out.add];congr 1;rw [HYE.out];simp only [Fr];simp [HE.out,HSP.out.sv]
       have HLA:Hid ((Bh xs c).length=m):=by show _=_;rw [HAD.out];simp only [List.length_set];exact HML.out
       rw [HLA.out,HAD.out];exact ⟨g,q,rfl,HO1.out,hB1⟩
      by_cases hz:c.apart=2
      case pos =>
       have HE:=iH hz;have e1:(c.apart == 0)=false:=by rw [hz];rfl
       have e2:decide (c.apart=0)=false:=by rw [hz];rfl
       have e3:(c.apart == 2)=true:=by rw [hz];rfl
       have e4:decide (c.apart=2)=true:=decide_eq_true hz;clear ha hz;go_upto_region 10 with fail;have HO2:Hid ((w5.setCell ⟨g,k*4+2,none⟩ (.int .i64 (y.apart+1))).ownsRow w.heap.size 125 4 (.slice (some ⟨g,0,none⟩) m q) m (Am (ys.set k { y1s with apart:=y.apart+1 }))):=by have h9:=(HO1.out.stored (k*4+2) (.int .i64 (y.apart+1))).1;rw [Gd _ k y1s _ HY1.out,List.set_set] at h9;exact h9
       have HK2:=iH (HK1.out.other (a:=⟨g,k*4+2,none⟩) hne (.int .i64 (y.apart+1)));have hB2:=Bf hB1 hgb (k*4+2) (.int .i64 (y.apart+1));clear n2 g2 k8 HO1 HK1 hB1;generalize w5.setCell ⟨g,k*4+2,none⟩ (.int .i64 (y.apart+1))=w6 at *;have k8:w6.cell? ⟨w.heap.size,8,none⟩=some (.int .i64 c.apart):=HK2.out.cell rfl;have HY2:Hid ((ys.set k { y1s with apart:=y.apart+1 })[k]?=some { y1s with apart:=y.apart+1 }):=by show _=_;rw [List.getElem?_set_self (by have:=HML.out;omega)]
       have n3:w6.cell? ⟨g,k*4+3,none⟩=some (.int .i64 y.zone):=by have h9:=HO2.out.cellAt (k*4+3) (by omega);rw [Ds _ k _ 3 HY2.out (by omega)] at h9;rw [← HE3.out];exact h9
       have g3:=HO2.out.frozenAt (k*4+3);go_upto_region 12 with fail;have HO3:Hid ((w6.setCell ⟨g,k*4+3,none⟩ (.int .i64 (y.zone+1))).ownsRow w.heap.size 125 4 (.slice (some ⟨g,0,none⟩) m q) m (Am (ys.set k { y1s with apart:=y.apart+1,zone:=y.zone+1 }))):=by have h9:=(HO2.out.stored (k*4+3) (.int .i64 (y.zone+1))).1;rw [Kn _ k _ _ HY2.out,List.set_set] at h9;exact h9
       have hB3:=Bf hB2 hgb (k*4+3) (.int .i64 (y.zone+1));clear n3 g3 k8 HO2 HK2 hB2;generalize w6.setCell ⟨g,k*4+3,none⟩ (.int .i64 (y.zone+1))=w7 at *;go_wp2_with fail;go_ret;have HAD:Hid (Bh xs c=ys.set k { y1s with apart:=y.apart+1,zone:=y.zone+1 }):=by show _=_;rw [HSP.out.add];congr 1;rw [HYE.out];simp only [Fr];simp [HE.out,HSP.out.sv]
       have HLA:Hid ((Bh xs c).length=m):=by show _=_;rw [HAD.out];simp only [List.length_set];exact HML.out
       rw [HLA.out,HAD.out];exact ⟨g,q,rfl,HO3.out,hB3⟩
      have HE:=iH (And.intro ha hz);have e1:(c.apart == 0)=false:=by simpa using ha
      have e2:decide (c.apart=0)=false:=decide_eq_false ha;have e3:(c.apart == 2)=false:=by simpa using hz
      have e4:decide (c.apart=2)=false:=decide_eq_false hz;clear ha hz;go_upto_region 10 with fail;have HO2:Hid ((w5.setCell ⟨g,k*4+2,none⟩ (.int .i64 (y.apart+1))).ownsRow w.heap.size 125 4 (.slice (some ⟨g,0,none⟩) m q) m (Am (ys.set k { y1s with apart:=y.apart+1 }))):=by have h9:=(HO1.out.stored (k*4+2) (.int .i64 (y.apart+1))).1;rw [Gd _ k y1s _ HY1.out,List.set_set] at h9;exact h9
      have HK2:=iH (HK1.out.other (a:=⟨g,k*4+2,none⟩) hne (.int .i64 (y.apart+1)));have hB2:=Bf hB1 hgb (k*4+2) (.int .i64 (y.apart+1));clear n2 g2 k8 HO1 HK1 hB1;generalize w5.setCell ⟨g,k*4+2,none⟩ (.int .i64 (y.apart+1))=w6 at *;have k8:w6.cell? ⟨w.heap.size,8,none⟩=some (.int .i64 c.apart):=HK2.out.cell rfl;have HY2:Hid ((ys.set k { y1s with apart:=y.apart+1 })[k]?=some { y1s with apart:=y.apart+1 }):=by show _=_;rw [List.getElem?_set_self (by have:=HML.out;omega)]
      go_wp2_with fail;go_ret;have HAD:Hid (Bh xs c=ys.set k { y1s with apart:=y.apart+1 }):=by show _=_;rw [HSP.out.add];congr 1;rw [HYE.out];simp only [Fr];simp [HE.out,HSP.out.sv]
      have HLA:Hid ((Bh xs c).length=m):=by show _=_;rw [HAD.out];simp only [List.length_set];exact HML.out
      rw [HLA.out,HAD.out];exact ⟨g,q,rfl,HO2.out,hB2⟩
end Go.Proofs.YtpeajnkkdioflaaGreat
