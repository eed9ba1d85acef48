import Derived.Test.YtnggdpjfmpjlhaaGreatTkw
import Derived.Test.YtnggdpjfmpjlhaaGreatJ39
import Derived.Test.YtnggdpjfmpjlhaaGreatLv8
namespace Go.Proofs.YtnggdpjfmpjlhaaGreat
open Go.RowKit
attribute [local go_sem] Oper.semAt_some

def lvN (x : Sbk) (v : Ssv) : Nat := (lvF x v.name (fun c => dnB x c.berth)).length
def SiP (x : Sbk) (p : Nat) (v : Ssv) (w : World) (e : Ending) (w' : World) : Prop := ∃ q : Nat, e = .returned (.pointer (some ⟨q, 0, none⟩)) ∧ SgL x p q w v (lvN x v : Nat) w' ∧ w.heap.size ≤ q

set_option maxHeartbeats 8000000 in
set_option maxRecDepth 100000 in
theorem sightOf_any (x : Sbk) (a1 : Option Addr) (c1 : Nat) (b2 o2 c2 : Nat) (a3 : Option Addr) (c3 : Nat) (p m n lo : Nat) (v : Ssv) (w : World) (hF : FndS x a1 c1 (some ⟨b2, o2, none⟩) c2 a3 c3 p m n lo w) (hv : SVal x) (hcap : x.copies.length ≤ c2) (hs : 0 ≤ v.want ∧ v.want ≤ 10 ∧ 0 ≤ v.down ∧ v.down ≤ 10) :
  Calls Tryz.prog 23 #[.pointer (some ⟨p, 0, none⟩), .agg #[.string v.name, .int .i64 v.version, .bool v.gone, .int .i64 v.image, .int .i64 v.want, .int .i64 v.down, .int .i64 v.over, .int .i64 v.next, .int .i64 v.per, .int .i64 v.least, .int .i64 v.most, .int .i64 v.load, .int .i64 v.cool]] w fun e w' => SiP x p v w e w' := by
 have hb1 : Below w.heap.size w (w.alloc (Obj.cells #[.string v.name, .int .i64 v.version, .bool v.gone, .int .i64 v.image, .int .i64 v.want, .int .i64 v.down, .int .i64 v.over, .int .i64 v.next, .int .i64 v.per, .int .i64 v.least, .int .i64 v.most, .int .i64 v.load, .int .i64 v.cool] 50)) := by go_grown
 have HG1 : Hid (Blk w.heap.size #[.string v.name, .int .i64 v.version, .bool v.gone, .int .i64 v.image, .int .i64 v.want, .int .i64 v.down, .int .i64 v.over, .int .i64 v.next, .int .i64 v.per, .int .i64 v.least, .int .i64 v.most, .int .i64 v.load, .int .i64 v.cool] 50 (w.alloc (Obj.cells #[.string v.name, .int .i64 v.version, .bool v.gone, .int .i64 v.image, .int .i64 v.want, .int .i64 v.down, .int .i64 v.over, .int .i64 v.next, .int .i64 v.per, .int .i64 v.least, .int .i64 v.most, .int .i64 v.load, .int .i64 v.cool] 50))) := Blk.alloc _ _ _
 have HF1 := Hid.intro (hF.below hb1)
 have HF := Hid.intro hF
 have HV := Hid.intro hv
 have HCAP := Hid.intro hcap
 have HSM := Hid.intro hs
 have hpw : p < w.heap.size := hF.blk.lt
 obtain ⟨ty, u, HRL⟩ : ∃ ty u, Hid (rlV x v = .iface ty u) := by
  unfold rlV
  split <;> exact ⟨_, _, rfl⟩
 clear hF hv hcap hs
 refine (callsIn_wide (n := 7)).1 ?_
 refine callsIn_of_wp_marks Tryz.func23 rfl trivial ?_ rfl
 refine wpIn_wide.2 ?_
 simp only [Tryz.ntmps23, List.size_toArray, List.length_cons, List.length_nil, Nat.reduceAdd, Nat.reduceSub, Array.replicate_succ, Array.replicate_zero, List.push_toArray, List.append_toArray, List.nil_append, List.cons_append]
 go_upto_region 1 with fail
 generalize w.alloc (Obj.cells #[.string v.name, .int .i64 v.version, .bool v.gone, .int .i64 v.image, .int .i64 v.want, .int .i64 v.down, .int .i64 v.over, .int .i64 v.next, .int .i64 v.per, .int .i64 v.least, .int .i64 v.most, .int .i64 v.load, .int .i64 v.cool] 50) = w1 at *
 go_cut [5] from 6 to 15 (fun r wz => ∃ gp q : Nat, r = .pointer (some ⟨gp, 0, none⟩) ∧ w.heap.size ≤ gp ∧ w.heap.size ≤ q ∧ gp ≠ q ∧ Hid (Blk gp #[.pointer (some ⟨q, 0, none⟩)] 62 wz) ∧ Hid (Blk q #[.string v.name, .int .i64 v.version, .bool v.gone, .int .i64 v.image, .int .i64 v.want, .int .i64 v.down, .int .i64 v.over, .int .i64 v.next, .int .i64 v.per, .int .i64 v.least, .int .i64 v.most, .int .i64 v.load, .int .i64 v.cool, .int .i64 (cntL x.copies v.name v.image).live, .int .i64 (cntL x.copies v.name v.image).ready, .int .i64 (cntL x.copies v.name v.image).old, .int .i64 (cntL x.copies v.name v.image).failed, .int .i64 (cntL x.copies v.name v.image).ending, .int .i64 0, .iface ty u, .pointer (some ⟨p, 0, none⟩)] 111 wz) ∧ Below w.heap.size w wz)
 case first =>
  refine wp_normal' ?_
  refine wp_region_held_drew (S := fun wy => FndS x a1 c1 (some ⟨b2, o2, none⟩) c2 a3 c3 p m n lo wy ∧ Blk w.heap.size #[.string v.name, .int .i64 v.version, .bool v.gone, .int .i64 v.image, .int .i64 v.want, .int .i64 v.down, .int .i64 v.over, .int .i64 v.next, .int .i64 v.per, .int .i64 v.least, .int .i64 v.most, .int .i64 v.load, .int .i64 v.cool] 50 wy) (by kernel_rfl) ⟨HF1.out.below (Below.refl _ _).drew, HG1.out.drew⟩ (fun hS => ?_)
  have hB2 := hb1.drew
  clear HF1 HG1 hb1
  generalize w1.drew = w2 at *
  refine tm 0 6 w.heap.size 0 [.string v.name, .int .i64 v.version, .bool v.gone, .int .i64 v.image, .int .i64 v.want, .int .i64 v.down, .int .i64 v.over, .int .i64 v.next, .int .i64 v.per, .int .i64 v.least, .int .i64 v.most, .int .i64 v.load, .int .i64 v.cool] rfl (fun _ h => h.2.rangeA) Tryz.underlying50 isz_Ssv hS ?_
  simp only [pA,pB,pC,pD]
  refine tm 2 8 w.heap.size 0 [.string v.name, .int .i64 v.version, .bool v.gone, .int .i64 v.image, .int .i64 v.want, .int .i64 v.down, .int .i64 v.over, .int .i64 v.next, .int .i64 v.per, .int .i64 v.least, .int .i64 v.most, .int .i64 v.load, .int .i64 v.cool] rfl (fun _ h => h.2.rangeA) Tryz.underlying50 isz_Ssv hS ?_
  simp only [pA,pB,pC,pD]
  refine tm 5 11 w.heap.size 0 [.string v.name, .int .i64 v.version, .bool v.gone, .int .i64 v.image, .int .i64 v.want, .int .i64 v.down, .int .i64 v.over, .int .i64 v.next, .int .i64 v.per, .int .i64 v.least, .int .i64 v.most, .int .i64 v.load, .int .i64 v.cool] rfl (fun _ h => h.2.rangeA) Tryz.underlying50 isz_Ssv hS ?_
  simp only [pA,pB,pC,pD]
  refine tz 1 7 (.pointer (some ⟨p, 0, none⟩)) rfl hS ?_
  simp only [pA,pB,pC,pD]
  refine tz 4 10 (.pointer (some ⟨p, 0, none⟩)) rfl hS ?_
  simp only [pA,pB,pC,pD]
  refine tz 7 13 (.pointer (some ⟨p, 0, none⟩)) rfl hS ?_
  simp only [pA,pB,pC,pD]
  refine wpAnyH_ready (rs := [3, 10]) (by kernel_rfl) (by simp) (AllReadyH.cons (o := ⟨some 9, _, _, _, _, none⟩) rfl (fun K hK => ?_) (AllReadyH.cons (o := ⟨some 5, _, _, _, _, none⟩) rfl (fun K hK => ?_) AllReadyH.nil))
  ·skip
   go_simp
   refine (fcount_any x a1 c1 b2 o2 c2 a3 c3 p m n lo v _ hS.1 HV.out HCAP.out).mono ?_
   rintro e w3 ⟨rfl, hb⟩
   have hB3 := hB2.trans (hb.mono hB2.size)
   refine hK.out _ _ ⟨hS.1.below hb, hS.2.below hb hS.2.lt⟩ (fun hS => ?_)
   clear hK K hb
   refine wpAnyH_ready (rs := [6, 10]) (by kernel_rfl) (by simp) (AllReadyH.cons (o := ⟨some 12, _, _, _, _, none⟩) rfl (fun K hK => ?_) (AllReadyH.cons (o := ⟨some 5, _, _, _, _, none⟩) rfl (fun K hK => ?_) AllReadyH.nil))
   ·skip
    go_simp
    refine (ruleOf_any x a1 c1 b2 o2 c2 a3 c3 p m n lo v _ hS.1 HV.out HCAP.out HSM.out).mono ?_
    rintro e w4 ⟨rfl, hb⟩
    have hB4 := hB3.trans (hb.mono hB3.size)
    refine hK.out _ _ ⟨hS.1.below hb, hS.2.below hb hS.2.lt⟩ (fun hS => ?_)
    clear hK K hb
    rw [HRL.out]
    refine tz 8 14 (.agg #[.string v.name, .int .i64 v.version, .bool v.gone, .int .i64 v.image, .int .i64 v.want, .int .i64 v.down, .int .i64 v.over, .int .i64 v.next, .int .i64 v.per, .int .i64 v.least, .int .i64 v.most, .int .i64 v.load, .int .i64 v.cool, .int .i64 (cntL x.copies v.name v.image).live, .int .i64 (cntL x.copies v.name v.image).ready, .int .i64 (cntL x.copies v.name v.image).old, .int .i64 (cntL x.copies v.name v.image).failed, .int .i64 (cntL x.copies v.name v.image).ending, .int .i64 0, .iface ty u, .pointer (some ⟨p, 0, none⟩)]) rfl hS ?_
    simp only [pA,pB,pC,pD]
    refine wpAnyH_ready (rs := [9, 10]) (by kernel_rfl) (by simp) (AllReadyH.cons (o := ⟨some 15, _, _, _, _, none⟩) rfl (fun K hK => ?_) (AllReadyH.cons (o := ⟨some 5, _, _, _, _, none⟩) rfl (fun K hK => ?_) AllReadyH.nil))
    ·skip
     go_simp
     have hb : Below w4.heap.size w4 (w4.alloc (Obj.cells #[.string v.name, .int .i64 v.version, .bool v.gone, .int .i64 v.image, .int .i64 v.want, .int .i64 v.down, .int .i64 v.over, .int .i64 v.next, .int .i64 v.per, .int .i64 v.least, .int .i64 v.most, .int .i64 v.load, .int .i64 v.cool, .int .i64 (cntL x.copies v.name v.image).live, .int .i64 (cntL x.copies v.name v.image).ready, .int .i64 (cntL x.copies v.name v.image).old, .int .i64 (cntL x.copies v.name v.image).failed, .int .i64 (cntL x.copies v.name v.image).ending, .int .i64 0, .iface ty u, .pointer (some ⟨p, 0, none⟩)] 111)) := (Below.refl _ _).alloc (Nat.le_refl _) _
     have HQ : Hid (Blk w4.heap.size #[.string v.name, .int .i64 v.version, .bool v.gone, .int .i64 v.image, .int .i64 v.want, .int .i64 v.down, .int .i64 v.over, .int .i64 v.next, .int .i64 v.per, .int .i64 v.least, .int .i64 v.most, .int .i64 v.load, .int .i64 v.cool, .int .i64 (cntL x.copies v.name v.image).live, .int .i64 (cntL x.copies v.name v.image).ready, .int .i64 (cntL x.copies v.name v.image).old, .int .i64 (cntL x.copies v.name v.image).failed, .int .i64 (cntL x.copies v.name v.image).ending, .int .i64 0, .iface ty u, .pointer (some ⟨p, 0, none⟩)] 111 (w4.alloc (Obj.cells #[.string v.name, .int .i64 v.version, .bool v.gone, .int .i64 v.image, .int .i64 v.want, .int .i64 v.down, .int .i64 v.over, .int .i64 v.next, .int .i64 v.per, .int .i64 v.least, .int .i64 v.most, .int .i64 v.load, .int .i64 v.cool, .int .i64 (cntL x.copies v.name v.image).live, .int .i64 (cntL x.copies v.name v.image).ready, .int .i64 (cntL x.copies v.name v.image).old, .int .i64 (cntL x.copies v.name v.image).failed, .int .i64 (cntL x.copies v.name v.image).ending, .int .i64 0, .iface ty u, .pointer (some ⟨p, 0, none⟩)] 111))) := Blk.alloc _ _ _
     have hB5 := hB4.trans (hb.mono hB4.size)
     have hltq : w.heap.size < w4.heap.size := hS.2.lt
     refine hK.out _ _ ⟨hS.1.below hb, hS.2.below hb hS.2.lt⟩ (fun hS => ?_)
     clear hK K hb
     generalize w4.alloc (Obj.cells #[.string v.name, .int .i64 v.version, .bool v.gone, .int .i64 v.image, .int .i64 v.want, .int .i64 v.down, .int .i64 v.over, .int .i64 v.next, .int .i64 v.per, .int .i64 v.least, .int .i64 v.most, .int .i64 v.load, .int .i64 v.cool, .int .i64 (cntL x.copies v.name v.image).live, .int .i64 (cntL x.copies v.name v.image).ready, .int .i64 (cntL x.copies v.name v.image).old, .int .i64 (cntL x.copies v.name v.image).failed, .int .i64 (cntL x.copies v.name v.image).ending, .int .i64 0, .iface ty u, .pointer (some ⟨p, 0, none⟩)] 111) = w5 at *
     generalize w4.heap.size = q at *
     refine rd1 10 ⟨some 5, _, _, _, _, none⟩ rfl (fun K hK => ?_)
     go_simp
     have hb : Below w5.heap.size w5 (w5.alloc (Obj.cells #[.pointer none] 62)) := (Below.refl _ _).alloc (Nat.le_refl _) _
     have HP : Hid (Blk w5.heap.size #[.pointer none] 62 (w5.alloc (Obj.cells #[.pointer none] 62))) := Blk.alloc _ _ _
     have hB6 := hB5.trans (hb.mono hB5.size)
     have hne : w5.heap.size ≠ q := by have h9 := HQ.out.lt; omega
     have HQ := Hid.intro (HQ.out.below hb HQ.out.lt)
     have hltgp : w.heap.size < w5.heap.size := hS.2.lt
     refine hK.out _ _ ⟨hS.1.below hb, hS.2.below hb hS.2.lt⟩ (fun hS => ?_)
     clear hK K hb
     generalize w5.alloc (Obj.cells #[.pointer none] 62) = w6 at *
     generalize w5.heap.size = gp at *
     refine rd1 11 ⟨none, _, _, _, _, none⟩ rfl (fun K hK => ?_)
     have kz := HP.out.cell (o := 0) rfl
     have fz := HP.out.frozen 0
     go_simp
     have HPf : Hid (Blk gp #[.pointer (some ⟨q, 0, none⟩)] 62 (w6.setCell ⟨gp, 0, none⟩ (.pointer (some ⟨q, 0, none⟩)))) := HP.out.set 0 (.pointer (some ⟨q, 0, none⟩))
     have HQf := Hid.intro (HQ.out.other (a := ⟨gp, 0, none⟩) (by show q ≠ gp; exact Ne.symm hne) (.pointer (some ⟨q, 0, none⟩)))
     have hBf : Below w.heap.size w (w6.setCell ⟨gp, 0, none⟩ (.pointer (some ⟨q, 0, none⟩))) := hB6.setCell (p := ⟨gp, 0, none⟩) (Nat.le_of_lt hltgp) _
     have hSf : FndS x a1 c1 (some ⟨b2, o2, none⟩) c2 a3 c3 p m n lo (w6.setCell ⟨gp, 0, none⟩ (.pointer (some ⟨q, 0, none⟩))) := HF.out.below hBf
     refine hK.out _ _ ⟨hSf, hS.2.other (a := ⟨gp, 0, none⟩) (by show w.heap.size ≠ gp; omega) _⟩ (fun hS => ?_)
     clear hK K kz fz hSf HP HQ
     generalize w6.setCell ⟨gp, 0, none⟩ (.pointer (some ⟨q, 0, none⟩)) = wf at *
     refine wpAnyH_done (by kernel_rfl) ?_ _
     refine ⟨rfl, ?_⟩
     clear hS
     go_wp2_with fail
     go_meet
     exact ⟨gp, q, rfl, Nat.le_of_lt hltgp, Nat.le_of_lt hltq, hne, HPf, HQf, hBf⟩
    ·skip
     go_simp
     have hb : Below w4.heap.size w4 (w4.alloc (Obj.cells #[.pointer none] 62)) := (Below.refl _ _).alloc (Nat.le_refl _) _
     have HP : Hid (Blk w4.heap.size #[.pointer none] 62 (w4.alloc (Obj.cells #[.pointer none] 62))) := Blk.alloc _ _ _
     have hB8 := hB4.trans (hb.mono hB4.size)
     have hltgp : w.heap.size < w4.heap.size := hS.2.lt
     refine hK.out _ _ ⟨hS.1.below hb, hS.2.below hb hS.2.lt⟩ (fun hS => ?_)
     clear hK K hb
     generalize w4.alloc (Obj.cells #[.pointer none] 62) = w8 at *
     generalize w4.heap.size = gp at *
     refine rd1 9 ⟨some 15, _, _, _, _, none⟩ rfl (fun K hK => ?_)
     go_simp
     have hb : Below w8.heap.size w8 (w8.alloc (Obj.cells #[.string v.name, .int .i64 v.version, .bool v.gone, .int .i64 v.image, .int .i64 v.want, .int .i64 v.down, .int .i64 v.over, .int .i64 v.next, .int .i64 v.per, .int .i64 v.least, .int .i64 v.most, .int .i64 v.load, .int .i64 v.cool, .int .i64 (cntL x.copies v.name v.image).live, .int .i64 (cntL x.copies v.name v.image).ready, .int .i64 (cntL x.copies v.name v.image).old, .int .i64 (cntL x.copies v.name v.image).failed, .int .i64 (cntL x.copies v.name v.image).ending, .int .i64 0, .iface ty u, .pointer (some ⟨p, 0, none⟩)] 111)) := (Below.refl _ _).alloc (Nat.le_refl _) _
     have HQ : Hid (Blk w8.heap.size #[.string v.name, .int .i64 v.version, .bool v.gone, .int .i64 v.image, .int .i64 v.want, .int .i64 v.down, .int .i64 v.over, .int .i64 v.next, .int .i64 v.per, .int .i64 v.least, .int .i64 v.most, .int .i64 v.load, .int .i64 v.cool, .int .i64 (cntL x.copies v.name v.image).live, .int .i64 (cntL x.copies v.name v.image).ready, .int .i64 (cntL x.copies v.name v.image).old, .int .i64 (cntL x.copies v.name v.image).failed, .int .i64 (cntL x.copies v.name v.image).ending, .int .i64 0, .iface ty u, .pointer (some ⟨p, 0, none⟩)] 111 (w8.alloc (Obj.cells #[.string v.name, .int .i64 v.version, .bool v.gone, .int .i64 v.image, .int .i64 v.want, .int .i64 v.down, .int .i64 v.over, .int .i64 v.next, .int .i64 v.per, .int .i64 v.least, .int .i64 v.most, .int .i64 v.load, .int .i64 v.cool, .int .i64 (cntL x.copies v.name v.image).live, .int .i64 (cntL x.copies v.name v.image).ready, .int .i64 (cntL x.copies v.name v.image).old, .int .i64 (cntL x.copies v.name v.image).failed, .int .i64 (cntL x.copies v.name v.image).ending, .int .i64 0, .iface ty u, .pointer (some ⟨p, 0, none⟩)] 111))) := Blk.alloc _ _ _
     have hB9 := hB8.trans (hb.mono hB8.size)
     have hne : gp ≠ w8.heap.size := by have h9 := HP.out.lt; omega
     have HP := Hid.intro (HP.out.below hb HP.out.lt)
     have hltq : w.heap.size < w8.heap.size := hS.2.lt
     refine hK.out _ _ ⟨hS.1.below hb, hS.2.below hb hS.2.lt⟩ (fun hS => ?_)
     clear hK K hb
     generalize w8.alloc (Obj.cells #[.string v.name, .int .i64 v.version, .bool v.gone, .int .i64 v.image, .int .i64 v.want, .int .i64 v.down, .int .i64 v.over, .int .i64 v.next, .int .i64 v.per, .int .i64 v.least, .int .i64 v.most, .int .i64 v.load, .int .i64 v.cool, .int .i64 (cntL x.copies v.name v.image).live, .int .i64 (cntL x.copies v.name v.image).ready, .int .i64 (cntL x.copies v.name v.image).old, .int .i64 (cntL x.copies v.name v.image).failed, .int .i64 (cntL x.copies v.name v.image).ending, .int .i64 0, .iface ty u, .pointer (some ⟨p, 0, none⟩)] 111) = w9 at *
     generalize w8.heap.size = q at *
     refine rd1 11 ⟨none, _, _, _, _, none⟩ rfl (fun K hK => ?_)
     have kz := HP.out.cell (o := 0) rfl
     have fz := HP.out.frozen 0
     go_simp
     have HPf : Hid (Blk gp #[.pointer (some ⟨q, 0, none⟩)] 62 (w9.setCell ⟨gp, 0, none⟩ (.pointer (some ⟨q, 0, none⟩)))) := HP.out.set 0 (.pointer (some ⟨q, 0, none⟩))
     have HQf := Hid.intro (HQ.out.other (a := ⟨gp, 0, none⟩) (by show q ≠ gp; exact Ne.symm hne) (.pointer (some ⟨q, 0, none⟩)))
     have hBf : Below w.heap.size w (w9.setCell ⟨gp, 0, none⟩ (.pointer (some ⟨q, 0, none⟩))) := hB9.setCell (p := ⟨gp, 0, none⟩) (Nat.le_of_lt hltgp) _
     have hSf : FndS x a1 c1 (some ⟨b2, o2, none⟩) c2 a3 c3 p m n lo (w9.setCell ⟨gp, 0, none⟩ (.pointer (some ⟨q, 0, none⟩))) := HF.out.below hBf
     refine hK.out _ _ ⟨hSf, hS.2.other (a := ⟨gp, 0, none⟩) (by show w.heap.size ≠ gp; omega) _⟩ (fun hS => ?_)
     clear hK K kz fz hSf HP HQ
     generalize w9.setCell ⟨gp, 0, none⟩ (.pointer (some ⟨q, 0, none⟩)) = wf at *
     refine wpAnyH_done (by kernel_rfl) ?_ _
     refine ⟨rfl, ?_⟩
     clear hS
     go_wp2_with fail
     go_meet
     exact ⟨gp, q, rfl, Nat.le_of_lt hltgp, Nat.le_of_lt hltq, hne, HPf, HQf, hBf⟩
   ·skip
    go_simp
    have hb : Below w3.heap.size w3 (w3.alloc (Obj.cells #[.pointer none] 62)) := (Below.refl _ _).alloc (Nat.le_refl _) _
    have HP : Hid (Blk w3.heap.size #[.pointer none] 62 (w3.alloc (Obj.cells #[.pointer none] 62))) := Blk.alloc _ _ _
    have hB11 := hB3.trans (hb.mono hB3.size)
    have hltgp : w.heap.size < w3.heap.size := hS.2.lt
    refine hK.out _ _ ⟨hS.1.below hb, hS.2.below hb hS.2.lt⟩ (fun hS => ?_)
    clear hK K hb
    generalize w3.alloc (Obj.cells #[.pointer none] 62) = w11 at *
    generalize w3.heap.size = gp at *
    refine rd1 6 ⟨some 12, _, _, _, _, none⟩ rfl (fun K hK => ?_)
    go_simp
    refine (ruleOf_any x a1 c1 b2 o2 c2 a3 c3 p m n lo v _ hS.1 HV.out HCAP.out HSM.out).mono ?_
    rintro e w12 ⟨rfl, hb⟩
    have hB12 := hB11.trans (hb.mono hB11.size)
    have HP := Hid.intro (HP.out.below hb HP.out.lt)
    refine hK.out _ _ ⟨hS.1.below hb, hS.2.below hb hS.2.lt⟩ (fun hS => ?_)
    clear hK K hb
    rw [HRL.out]
    refine tz 8 14 (.agg #[.string v.name, .int .i64 v.version, .bool v.gone, .int .i64 v.image, .int .i64 v.want, .int .i64 v.down, .int .i64 v.over, .int .i64 v.next, .int .i64 v.per, .int .i64 v.least, .int .i64 v.most, .int .i64 v.load, .int .i64 v.cool, .int .i64 (cntL x.copies v.name v.image).live, .int .i64 (cntL x.copies v.name v.image).ready, .int .i64 (cntL x.copies v.name v.image).old, .int .i64 (cntL x.copies v.name v.image).failed, .int .i64 (cntL x.copies v.name v.image).ending, .int .i64 0, .iface ty u, .pointer (some ⟨p, 0, none⟩)]) rfl hS ?_
    simp only [pA,pB,pC,pD]
    refine rd1 9 ⟨some 15, _, _, _, _, none⟩ rfl (fun K hK => ?_)
    go_simp
    have hb : Below w12.heap.size w12 (w12.alloc (Obj.cells #[.string v.name, .int .i64 v.version, .bool v.gone, .int .i64 v.image, .int .i64 v.want, .int .i64 v.down, .int .i64 v.over, .int .i64 v.next, .int .i64 v.per, .int .i64 v.least, .int .i64 v.most, .int .i64 v.load, .int .i64 v.cool, .int .i64 (cntL x.copies v.name v.image).live, .int .i64 (cntL x.copies v.name v.image).ready, .int .i64 (cntL x.copies v.name v.image).old, .int .i64 (cntL x.copies v.name v.image).failed, .int .i64 (cntL x.copies v.name v.image).ending, .int .i64 0, .iface ty u, .pointer (some ⟨p, 0, none⟩)] 111)) := (Below.refl _ _).alloc (Nat.le_refl _) _
    have HQ : Hid (Blk w12.heap.size #[.string v.name, .int .i64 v.version, .bool v.gone, .int .i64 v.image, .int .i64 v.want, .int .i64 v.down, .int .i64 v.over, .int .i64 v.next, .int .i64 v.per, .int .i64 v.least, .int .i64 v.most, .int .i64 v.load, .int .i64 v.cool, .int .i64 (cntL x.copies v.name v.image).live, .int .i64 (cntL x.copies v.name v.image).ready, .int .i64 (cntL x.copies v.name v.image).old, .int .i64 (cntL x.copies v.name v.image).failed, .int .i64 (cntL x.copies v.name v.image).ending, .int .i64 0, .iface ty u, .pointer (some ⟨p, 0, none⟩)] 111 (w12.alloc (Obj.cells #[.string v.name, .int .i64 v.version, .bool v.gone, .int .i64 v.image, .int .i64 v.want, .int .i64 v.down, .int .i64 v.over, .int .i64 v.next, .int .i64 v.per, .int .i64 v.least, .int .i64 v.most, .int .i64 v.load, .int .i64 v.cool, .int .i64 (cntL x.copies v.name v.image).live, .int .i64 (cntL x.copies v.name v.image).ready, .int .i64 (cntL x.copies v.name v.image).old, .int .i64 (cntL x.copies v.name v.image).failed, .int .i64 (cntL x.copies v.name v.image).ending, .int .i64 0, .iface ty u, .pointer (some ⟨p, 0, none⟩)] 111))) := Blk.alloc _ _ _
    have hB13 := hB12.trans (hb.mono hB12.size)
    have hne : gp ≠ w12.heap.size := by have h9 := HP.out.lt; omega
    have HP := Hid.intro (HP.out.below hb HP.out.lt)
    have hltq : w.heap.size < w12.heap.size := hS.2.lt
    refine hK.out _ _ ⟨hS.1.below hb, hS.2.below hb hS.2.lt⟩ (fun hS => ?_)
    clear hK K hb
    generalize w12.alloc (Obj.cells #[.string v.name, .int .i64 v.version, .bool v.gone, .int .i64 v.image, .int .i64 v.want, .int .i64 v.down, .int .i64 v.over, .int .i64 v.next, .int .i64 v.per, .int .i64 v.least, .int .i64 v.most, .int .i64 v.load, .int .i64 v.cool, .int .i64 (cntL x.copies v.name v.image).live, .int .i64 (cntL x.copies v.name v.image).ready, .int .i64 (cntL x.copies v.name v.image).old, .int .i64 (cntL x.copies v.name v.image).failed, .int .i64 (cntL x.copies v.name v.image).ending, .int .i64 0, .iface ty u, .pointer (some ⟨p, 0, none⟩)] 111) = w13 at *
    generalize w12.heap.size = q at *
    refine rd1 11 ⟨none, _, _, _, _, none⟩ rfl (fun K hK => ?_)
    have kz := HP.out.cell (o := 0) rfl
    have fz := HP.out.frozen 0
    go_simp
    have HPf : Hid (Blk gp #[.pointer (some ⟨q, 0, none⟩)] 62 (w13.setCell ⟨gp, 0, none⟩ (.pointer (some ⟨q, 0, none⟩)))) := HP.out.set 0 (.pointer (some ⟨q, 0, none⟩))
    have HQf := Hid.intro (HQ.out.other (a := ⟨gp, 0, none⟩) (by show q ≠ gp; exact Ne.symm hne) (.pointer (some ⟨q, 0, none⟩)))
    have hBf : Below w.heap.size w (w13.setCell ⟨gp, 0, none⟩ (.pointer (some ⟨q, 0, none⟩))) := hB13.setCell (p := ⟨gp, 0, none⟩) (Nat.le_of_lt hltgp) _
    have hSf : FndS x a1 c1 (some ⟨b2, o2, none⟩) c2 a3 c3 p m n lo (w13.setCell ⟨gp, 0, none⟩ (.pointer (some ⟨q, 0, none⟩))) := HF.out.below hBf
    refine hK.out _ _ ⟨hSf, hS.2.other (a := ⟨gp, 0, none⟩) (by show w.heap.size ≠ gp; omega) _⟩ (fun hS => ?_)
    clear hK K kz fz hSf HP HQ
    generalize w13.setCell ⟨gp, 0, none⟩ (.pointer (some ⟨q, 0, none⟩)) = wf at *
    refine wpAnyH_done (by kernel_rfl) ?_ _
    refine ⟨rfl, ?_⟩
    clear hS
    go_wp2_with fail
    go_meet
    exact ⟨gp, q, rfl, Nat.le_of_lt hltgp, Nat.le_of_lt hltq, hne, HPf, HQf, hBf⟩
  ·skip
   go_simp
   have hb : Below w2.heap.size w2 (w2.alloc (Obj.cells #[.pointer none] 62)) := (Below.refl _ _).alloc (Nat.le_refl _) _
   have HP : Hid (Blk w2.heap.size #[.pointer none] 62 (w2.alloc (Obj.cells #[.pointer none] 62))) := Blk.alloc _ _ _
   have hB15 := hB2.trans (hb.mono hB2.size)
   have hltgp : w.heap.size < w2.heap.size := hS.2.lt
   refine hK.out _ _ ⟨hS.1.below hb, hS.2.below hb hS.2.lt⟩ (fun hS => ?_)
   clear hK K hb
   generalize w2.alloc (Obj.cells #[.pointer none] 62) = w15 at *
   generalize w2.heap.size = gp at *
   refine rd1 3 ⟨some 9, _, _, _, _, none⟩ rfl (fun K hK => ?_)
   go_simp
   refine (fcount_any x a1 c1 b2 o2 c2 a3 c3 p m n lo v _ hS.1 HV.out HCAP.out).mono ?_
   rintro e w16 ⟨rfl, hb⟩
   have hB16 := hB15.trans (hb.mono hB15.size)
   have HP := Hid.intro (HP.out.below hb HP.out.lt)
   refine hK.out _ _ ⟨hS.1.below hb, hS.2.below hb hS.2.lt⟩ (fun hS => ?_)
   clear hK K hb
   refine rd1 6 ⟨some 12, _, _, _, _, none⟩ rfl (fun K hK => ?_)
   go_simp
   refine (ruleOf_any x a1 c1 b2 o2 c2 a3 c3 p m n lo v _ hS.1 HV.out HCAP.out HSM.out).mono ?_
   rintro e w17 ⟨rfl, hb⟩
   have hB17 := hB16.trans (hb.mono hB16.size)
   have HP := Hid.intro (HP.out.below hb HP.out.lt)
   refine hK.out _ _ ⟨hS.1.below hb, hS.2.below hb hS.2.lt⟩ (fun hS => ?_)
   clear hK K hb
   rw [HRL.out]
   refine tz 8 14 (.agg #[.string v.name, .int .i64 v.version, .bool v.gone, .int .i64 v.image, .int .i64 v.want, .int .i64 v.down, .int .i64 v.over, .int .i64 v.next, .int .i64 v.per, .int .i64 v.least, .int .i64 v.most, .int .i64 v.load, .int .i64 v.cool, .int .i64 (cntL x.copies v.name v.image).live, .int .i64 (cntL x.copies v.name v.image).ready, .int .i64 (cntL x.copies v.name v.image).old, .int .i64 (cntL x.copies v.name v.image).failed, .int .i64 (cntL x.copies v.name v.image).ending, .int .i64 0, .iface ty u, .pointer (some ⟨p, 0, none⟩)]) rfl hS ?_
   simp only [pA,pB,pC,pD]
   refine rd1 9 ⟨some 15, _, _, _, _, none⟩ rfl (fun K hK => ?_)
   go_simp
   have hb : Below w17.heap.size w17 (w17.alloc (Obj.cells #[.string v.name, .int .i64 v.version, .bool v.gone, .int .i64 v.image, .int .i64 v.want, .int .i64 v.down, .int .i64 v.over, .int .i64 v.next, .int .i64 v.per, .int .i64 v.least, .int .i64 v.most, .int .i64 v.load, .int .i64 v.cool, .int .i64 (cntL x.copies v.name v.image).live, .int .i64 (cntL x.copies v.name v.image).ready, .int .i64 (cntL x.copies v.name v.image).old, .int .i64 (cntL x.copies v.name v.image).failed, .int .i64 (cntL x.copies v.name v.image).ending, .int .i64 0, .iface ty u, .pointer (some ⟨p, 0, none⟩)] 111)) := (Below.refl _ _).alloc (Nat.le_refl _) _
   have HQ : Hid (Blk w17.heap.size #[.string v.name, .int .i64 v.version, .bool v.gone, .int .i64 v.image, .int .i64 v.want, .int .i64 v.down, .int .i64 v.over, .int .i64 v.next, .int .i64 v.per, .int .i64 v.least, .int .i64 v.most, .int .i64 v.load, .int .i64 v.cool, .int .i64 (cntL x.copies v.name v.image).live, .int .i64 (cntL x.copies v.name v.image).ready, .int .i64 (cntL x.copies v.name v.image).old, .int .i64 (cntL x.copies v.name v.image).failed, .int .i64 (cntL x.copies v.name v.image).ending, .int .i64 0, .iface ty u, .pointer (some ⟨p, 0, none⟩)] 111 (w17.alloc (Obj.cells #[.string v.name, .int .i64 v.version, .bool v.gone, .int .i64 v.image, .int .i64 v.want, .int .i64 v.down, .int .i64 v.over, .int .i64 v.next, .int .i64 v.per, .int .i64 v.least, .int .i64 v.most, .int .i64 v.load, .int .i64 v.cool, .int .i64 (cntL x.copies v.name v.image).live, .int .i64 (cntL x.copies v.name v.image).ready, .int .i64 (cntL x.copies v.name v.image).old, .int .i64 (cntL x.copies v.name v.image).failed, .int .i64 (cntL x.copies v.name v.image).ending, .int .i64 0, .iface ty u, .pointer (some ⟨p, 0, none⟩)] 111))) := Blk.alloc _ _ _
   have hB18 := hB17.trans (hb.mono hB17.size)
   have hne : gp ≠ w17.heap.size := by have h9 := HP.out.lt; omega
   have HP := Hid.intro (HP.out.below hb HP.out.lt)
   have hltq : w.heap.size < w17.heap.size := hS.2.lt
   refine hK.out _ _ ⟨hS.1.below hb, hS.2.below hb hS.2.lt⟩ (fun hS => ?_)
   clear hK K hb
   generalize w17.alloc (Obj.cells #[.string v.name, .int .i64 v.version, .bool v.gone, .int .i64 v.image, .int .i64 v.want, .int .i64 v.down, .int .i64 v.over, .int .i64 v.next, .int .i64 v.per, .int .i64 v.least, .int .i64 v.most, .int .i64 v.load, .int .i64 v.cool, .int .i64 (cntL x.copies v.name v.image).live, .int .i64 (cntL x.copies v.name v.image).ready, .int .i64 (cntL x.copies v.name v.image).old, .int .i64 (cntL x.copies v.name v.image).failed, .int .i64 (cntL x.copies v.name v.image).ending, .int .i64 0, .iface ty u, .pointer (some ⟨p, 0, none⟩)] 111) = w18 at *
   generalize w17.heap.size = q at *
   refine rd1 11 ⟨none, _, _, _, _, none⟩ rfl (fun K hK => ?_)
   have kz := HP.out.cell (o := 0) rfl
   have fz := HP.out.frozen 0
   go_simp
   have HPf : Hid (Blk gp #[.pointer (some ⟨q, 0, none⟩)] 62 (w18.setCell ⟨gp, 0, none⟩ (.pointer (some ⟨q, 0, none⟩)))) := HP.out.set 0 (.pointer (some ⟨q, 0, none⟩))
   have HQf := Hid.intro (HQ.out.other (a := ⟨gp, 0, none⟩) (by show q ≠ gp; exact Ne.symm hne) (.pointer (some ⟨q, 0, none⟩)))
   have hBf : Below w.heap.size w (w18.setCell ⟨gp, 0, none⟩ (.pointer (some ⟨q, 0, none⟩))) := hB18.setCell (p := ⟨gp, 0, none⟩) (Nat.le_of_lt hltgp) _
   have hSf : FndS x a1 c1 (some ⟨b2, o2, none⟩) c2 a3 c3 p m n lo (w18.setCell ⟨gp, 0, none⟩ (.pointer (some ⟨q, 0, none⟩))) := HF.out.below hBf
   refine hK.out _ _ ⟨hSf, hS.2.other (a := ⟨gp, 0, none⟩) (by show w.heap.size ≠ gp; omega) _⟩ (fun hS => ?_)
   clear hK K kz fz hSf HP HQ
   generalize w18.setCell ⟨gp, 0, none⟩ (.pointer (some ⟨q, 0, none⟩)) = wf at *
   refine wpAnyH_done (by kernel_rfl) ?_ _
   refine ⟨rfl, ?_⟩
   clear hS
   go_wp2_with fail
   go_meet
   exact ⟨gp, q, rfl, Nat.le_of_lt hltgp, Nat.le_of_lt hltq, hne, HPf, HQf, hBf⟩
 case rest =>
  obtain ⟨gp, q, rfl, hlp, hlq, hne, HP, HQ, hB⟩ := hcut
  generalize wc = w5 at *
  have HK5 : Hid (SgL x p q w v ((0 : Nat) : Int) w5) := by
   refine ⟨hB, ?_⟩
   rw [HRL.out]
   exact HQ.out
  have kp : w5.cell? ⟨gp, 0, none⟩ = some (.pointer (some ⟨q, 0, none⟩)) := HP.out.cell rfl
  clear HQ
  go_wp2_with fail
  refine (live_any q (.func (.func 61) #[.pointer (some ⟨q, 0, none⟩)] #[]) _ rfl).mono ?_
  rintro e w7 ⟨rfl, hw7⟩
  have hb7 : Below w5.heap.size w5 w7 := by rw [hw7]; exact ((Below.refl _ w5).alloc (Nat.le_refl _) _).alloc (by simp) _
  have HQ7 : Hid (Blk w5.heap.size #[.pointer (some ⟨q, 0, none⟩)] 62 w7) := by
   show Blk _ _ _ _
   rw [hw7]
   exact (Blk.alloc w5 _ _).below ((Below.refl _ _).alloc (Nat.le_refl _) _) (Blk.alloc w5 _ _).lt
  have HI7 : Hid (Blk (w5.heap.size + 1) #[.func (.func 61) #[.pointer (some ⟨q, 0, none⟩)] #[]] 115 w7) := by
   rw [hw7]
   have h := Blk.alloc (w5.alloc (Obj.cells #[.pointer (some ⟨q, 0, none⟩)] 62)) #[.func (.func 61) #[.pointer (some ⟨q, 0, none⟩)] #[]] 115
   show Blk _ _ _ _
   simpa using h
  have HK7 := Hid.intro (HK5.out.below hb7)
  have HP7 := Hid.intro (HP.out.below hb7 HP.out.lt)
  have hp5 := HP.out.lt
  have hq5 := HK5.out.2.lt
  have hs7 : w5.heap.size + 1 < w7.heap.size := HI7.out.lt
  have hord : gp < w7.heap.size ∧ q < w7.heap.size ∧ w.heap.size ≤ w7.heap.size := ⟨by omega, by omega, HK7.out.1.size⟩
  clear hw7 hb7 HK5 HP kp hp5 hq5 hB
  generalize hB1 : w5.heap.size + 1 = Bi at *
  generalize hB2 : w5.heap.size = Bq at *
  clear hB1 hB2
  go_wp2_with fail
  refine wpIn_wide.1 (range_all (n := 6) (fun k => k = q) (SgK x p q w v) (gf := 83) (lb := #[.pointer (some ⟨Bq, 0, none⟩), .pointer (some ⟨Bi, 0, none⟩)]) rfl (enters_of Tryz.func83 (by kernel_rfl) rfl)
   (live_all x a1 c1 b2 o2 c2 a3 c3 p m n lo q w v Bq Bi 61 #[.pointer (some ⟨q, 0, none⟩)] (fun c => dnB x c.berth) (fun k => k = q) w7.heap.size w7 HF.out HV.out HCAP.out HQ7.out HI7.out HK7.out.1 hord.2.2 (fun k e => by omega) (isLeaving_is x a1 c1 b2 o2 c2 a3 c3 p m n lo q w v HF.out HV.out) (enters_of Tryz.func61 (by kernel_rfl) rfl)) (fun _ => rfl)
   (fun pre W' => SgL x p q w v ((pre.length : Nat) : Int) W' ∧ Blk gp #[.pointer (some ⟨q, 0, none⟩)] 62 W' ∧ w7.heap.size ≤ W'.heap.size) ?_ (fun _ _ h => ⟨_, h.1⟩) ?_
   (fun c a' _ => a' = { tmps := #[.pointer (some ⟨p, 0, none⟩), .agg #[.string v.name, .int .i64 v.version, .bool v.gone, .int .i64 v.image, .int .i64 v.want, .int .i64 v.down, .int .i64 v.over, .int .i64 v.next, .int .i64 v.per, .int .i64 v.least, .int .i64 v.most, .int .i64 v.load, .int .i64 v.cool], undef, .pointer (some ⟨w.heap.size, 0, none⟩), .pointer none, .pointer (some ⟨gp, 0, none⟩), u6, u7, u8, u9, u10, u11, u12, u13, u14, u15, .pointer (some ⟨q, 0, none⟩), .pointer (some ⟨q, 0, none⟩), .func (.func 61) #[.pointer (some ⟨q, 0, none⟩)] #[], .func (.func 83) #[] #[.pointer (some ⟨Bq, 0, none⟩), .pointer (some ⟨Bi, 0, none⟩)], .agg #[.string c.1.service, .int .i64 c.1.number, .int .i64 c.1.version, .int .i64 c.1.image, .int .i64 c.1.state, .bool c.1.ending, .string c.1.berth], undef, undef, undef, undef, undef, undef, undef, undef], defers := [] }) (fun _ _ _ _ _ _ h _ _ => h) ?_ ?_ ?_)
  ·rintro s A B row ⟨h1, h2, h3⟩ hgr hr
   exact ⟨h1.grown hgr (fun r e => ⟨by have := (hr r e).1; omega, by have := (hr r e).1; omega⟩), h2.grown hgr (fun e => by have := (hr _ e.symm).1; omega), Nat.le_trans h3 hgr.size⟩
  ·exact ⟨HK7.out, HP7.out, Nat.le_refl _⟩
  ·rintro l' pre c W' K h hK
   have hKK := Hid.intro hK
   have HH := Hid.intro h
   clear hK h
   gi_wp2_with fail
   exact hKK.out _ _ (KeepsFrom.refl _ _) (KpT.refl _ _ _) HH.out (by first | (simp; done) | kernel_rfl)
  ·rintro l' pre c a' W' ⟨h1, h2, h3⟩ rfl hlt'
   have HL : Hid ((((pre ++ [c]).length : Nat) : Int) = (pre.length : Int) + 1) := by show _ = _; simp
   have hwr : IntKind.i64.wrap ((pre.length : Int) + 1) = (pre.length : Int) + 1 := by rw [IntKind.wrap_i64]; omega
   have k0 : W'.cell? ⟨gp, 0, none⟩ = some (.pointer (some ⟨q, 0, none⟩)) := h2.cell rfl
   have k1 : W'.cell? ⟨q, 18, none⟩ = some (.int .i64 (pre.length : Int)) := h1.2.cell rfl
   have f1 : W'.frozen? ⟨q, 18, none⟩ = false := h1.2.frozen 18
   have H1 := Hid.intro h1
   have H2 := Hid.intro h2
   clear h1 h2
   gi_wp2_with fail
   refine ⟨(KeepsOthers.setCell _ _ _).from _, (KpT.refl (fun k => k = q) _ W').set H1.out.2 (by unfold tyP; decide) (.inr rfl) 18 _, ⟨H1.out.1.setCell (p := ⟨q, 18, none⟩) hlq _, ?_⟩, H2.out.other (a := ⟨q, 18, none⟩) hne _, by simp [World.setCell]; exact h3⟩
   rw [HL.out]
   exact H1.out.2.set 18 (.int .i64 ((pre.length : Int) + 1))
  ·rintro D xs W' hD hcame ⟨h1, h2, h3⟩ hK
   have HLN : Hid (xs.length = lvN x v) := by
    show _ = _
    unfold lvN
    rw [← hcame, List.length_map]
   have k0 : W'.cell? ⟨gp, 0, none⟩ = some (.pointer (some ⟨q, 0, none⟩)) := h2.cell rfl
   have H1 := Hid.intro h1
   have HD := Hid.intro hK
   clear h1 h2 hK hcame
   go_wp2_with fail
   refine ⟨by simp, .inl ⟨_, _, rfl, run_takeDeferred HD.out, ?_⟩⟩
   refine ⟨_, results_tmp rfl _ _ _, q, rfl, ?_, hlq⟩
   rw [← HLN.out]
   exact H1.out.grown (grownBy_putObj' W' D _) (fun r e => by cases e; exact ⟨by omega, by omega⟩)

end Go.Proofs.YtnggdpjfmpjlhaaGreat
