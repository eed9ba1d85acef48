import Derived.Test.YtnggdpjfmpjlhaaGreatSt5
import Derived.Test.YtnggdpjfmpjlhaaGreatTkw
import Derived.Test.YtnggdpjfmpjlhaaGreatShp
namespace Go.Proofs.YtnggdpjfmpjlhaaGreat
open Go.RowKit

end Go.Proofs.YtnggdpjfmpjlhaaGreat

namespace Go.Proofs.YtnggdpjfmpjlhaaGreat
open Go.RowKit

def isC (s : ByteArray) (n : Int) (c : Scp) : Bool := decide (c.service = s) && decide (c.number = n)
def idxC (l : List Scp) (s : ByteArray) (n : Int) : Int := match l.findIdx? (isC s n) with
 | some k => (k : Int)
 | none => -1

theorem idxC_at {l : List Scp} {s : ByteArray} {n : Int} {k : Nat} {c : Scp} (hk : l[k]? = some c) (h : isC s n c = true) (ho : ∀ j c, j < k → l[j]? = some c → isC s n c = false) : idxC l s n = k := by
 have : l.findIdx? (isC s n) = some k := by
  rw [List.findIdx?_eq_some_iff_getElem]
  obtain ⟨hlt, e⟩ := List.getElem?_eq_some_iff.1 hk
  refine ⟨hlt, by rw [e]; exact h, fun j hj => ?_⟩
  have := ho j l[j] hj (List.getElem?_eq_getElem (by omega))
  simpa using this
 simp [idxC, this]

theorem idxC_none {l : List Scp} {s : ByteArray} {n : Int} (ho : ∀ j c, j < l.length → l[j]? = some c → isC s n c = false) : idxC l s n = -1 := by
 have : l.findIdx? (isC s n) = none := by
  rw [List.findIdx?_eq_none_iff]
  intro c hc
  obtain ⟨j, hj⟩ := List.getElem?_of_mem hc
  exact ho j c (lt_of_some hj) hj
 simp [idxC, this]

theorem idxC_cases (l : List Scp) (s : ByteArray) (n : Int) : (idxC l s n = -1 ∧ l.find? (isC s n) = none) ∨ ∃ (k : Nat) (c : Scp), idxC l s n = (k : Int) ∧ l[k]? = some c ∧ l.find? (isC s n) = some c := by
 cases h : l.findIdx? (isC s n) with
 | none =>
  refine .inl ⟨by unfold idxC; rw [h], ?_⟩
  rw [List.find?_eq_none]
  intro b hb
  have := List.findIdx?_eq_none_iff.1 h b hb
  simpa using this
 | some k =>
  obtain ⟨hk, h1, h2⟩ := List.findIdx?_eq_some_iff_getElem.1 h
  refine .inr ⟨k, l[k], by unfold idxC; rw [h], List.getElem?_eq_getElem hk, ?_⟩
  rw [List.find?_eq_some_iff_getElem]
  exact ⟨h1, k, hk, rfl, fun j hj => by have := h2 j hj; simpa using this⟩

set_option maxHeartbeats 2000000 in
set_option maxRecDepth 100000 in
theorem copy_at (x : Sbk) (a1 : Option Addr) (c1 : Nat) (a2 : Option Addr) (c2 : Nat) (a3 : Option Addr) (c3 : Nat) (lo : Nat) (s : ByteArray) (n : Int) (w : World) (n1 : SliceC ScpC 7 lo w a2 x.copies) (hl : x.copies.length ≤ 1048576) :
  Calls Tryz.prog 94 #[.agg #[.int .i64 x.now, .slice a1 x.services.length c1, .slice a2 x.copies.length c2, .slice a3 x.berths.length c3], .string s, .int .i64 n] w fun e w' => e = .returned (.int .i64 (idxC x.copies s n)) ∧ Below w.heap.size w w' := by
 have HI : Hid (SliceC ScpC 7 lo w a2 x.copies) := n1
 clear n1
 generalize hbs : x.copies = bs at *
 clear hbs
 go_enter Tryz.func94, Tryz.ntmps94
 go_wp2_with fail
 go_loopw [7] (fun i wr => ∃ k : Nat, k ≤ bs.length ∧ i = .int .i64 k ∧ wr.cell? ⟨w.heap.size, 2, none⟩ = some (.slice a2 bs.length c2) ∧ Hid (∀ j c, j < k → bs[j]? = some c → isC s n c = false) ∧ Below w.heap.size w wr) (fun i _ => bs.length - (intOf i).toNat)
 case atStart => exact ⟨0, Nat.zero_le _, rfl, by simp, fun j b h => by omega, by go_grown⟩
 case round =>
  obtain ⟨k, hk, rfl, hcell, ho, hbel⟩ := hrel
  by_cases hlt : k < bs.length
  ·obtain ⟨y, hx⟩ : ∃ y, bs[k]? = some y := ⟨bs[k], List.getElem?_eq_getElem hlt⟩
   obtain ⟨b, o, rfl, _, _, hc⟩ := (HI.out.below ScpC.holds hbel (Nat.le_refl _)).at hx
   obtain ⟨q0, q1, q2, q3, q4, q5, q6, z0, z1⟩ := hc
   simp only [Nat.add_zero] at q0
   have HX : Hid (bs[k]? = some y) := hx
   clear hx q2 q3 q4 q5 q6 z0 z1
   cases hs : (y.service.toList == s.toList) with
   | false =>
    have HN : Hid (isC s n y = false) := by
     show _ = _
     unfold isC
     rw [decide_eq_false (fun e => by rw [bt_eq e] at hs; cases hs)]
     rfl
    go_wp2_with fail
    go_roundw
    case rel =>
     refine ⟨k + 1, by omega, by go_num, hcell, ?_, hbel⟩
     intro j p hj hp
     by_cases e : j = k
     ·subst e
      rw [HX.out] at hp
      cases hp
      exact HN.out
     ·exact ho.out j p (by omega) hp
    case measure => simp [intOf]; omega
   | true =>
    have HS : Hid (y.service = s) := by
     show _ = _
     refine Classical.byContradiction fun e => ?_
     rw [bt_ne e] at hs
     cases hs
    cases hn : (y.number == n) with
    | false =>
     have HN : Hid (isC s n y = false) := by
      show _ = _
      unfold isC
      rw [decide_eq_false (fun e : y.number = n => by rw [e] at hn; simp at hn)]
      simp
     go_wp2_with fail
     go_roundw
     case rel =>
      refine ⟨k + 1, by omega, by go_num, hcell, ?_, hbel⟩
      intro j p hj hp
      by_cases e : j = k
      ·subst e
       rw [HX.out] at hp
       cases hp
       exact HN.out
      ·exact ho.out j p (by omega) hp
     case measure => simp [intOf]; omega
    | true =>
     have HZ : Hid (idxC bs s n = k) := idxC_at HX.out (by unfold isC; rw [HS.out, eq_of_beq hn]; simp) ho.out
     go_wp2_with fail
     go_ret
     exact ⟨ret_int HZ.out.symm, hbel⟩
  ·have hke : k = bs.length := by omega
   have HZ : Hid (idxC bs s n = -1) := idxC_none (hke ▸ ho.out)
   go_wp2_with fail
   go_ret
   exact ⟨ret_int HZ.out.symm, hbel⟩

end Go.Proofs.YtnggdpjfmpjlhaaGreat

namespace Go.Proofs.YtnggdpjfmpjlhaaGreat
open Go.RowKit

def mayB (x : Sbk) (s : ByteArray) (n : Int) : Bool :=
 match x.copies.find? (isC s n), x.services.find? (fun b => decide (b.name = s)) with
 | some c, some v => !c.ending && (!(c.state == 3) || v.gone || decide (v.want - v.down ≤ (cntL x.copies s v.image).ready - 1))
 | _, _ => false

theorem sv_small {v : Ssv} {now : Int} (h : svB v now = true) : 0 ≤ v.want ∧ v.want ≤ 10 ∧ 0 ≤ v.down ∧ v.down ≤ 10 := by
 unfold svB at h
 simp [inR] at h
 exact ⟨by omega, by omega, by omega, by omega⟩

structure SWk (x : Sbk) : Prop where
 l1 : x.services.length ≤ 8
 l2 : x.copies.length ≤ 200
 s1 : ∀ (j : Nat) y, x.services[j]? = some y → 0 ≤ y.want ∧ y.want ≤ 10 ∧ 0 ≤ y.down ∧ y.down ≤ 10
 c1 : ∀ (j : Nat) y, x.copies[j]? = some y → x.services.find? (fun b => decide (b.name = y.service)) ≠ none

theorem SWk.of {x : Sbk} (h : SVal x) : SWk x := ⟨h.l1, h.l2, fun j y hy => sv_small (h.s1 j y hy), fun j y hy => by
 have h1 := h.c1 j y hy
 unfold cpB at h1
 intro hn
 rw [hn] at h1
 cases h1⟩

theorem copy_service {x : Sbk} (hv : SWk x) {s : ByteArray} {n : Int} {k : Nat} {c : Scp} (hk : x.copies[k]? = some c) (hf : x.copies.find? (isC s n) = some c) : ∃ (v : Ssv) (ks : Nat), x.services[ks]? = some v ∧ idxV x.services s = (ks : Int) ∧ x.services.find? (fun b => decide (b.name = s)) = some v := by
 have h1 := hv.c1 k c hk
 have h2 : isC s n c = true := by simpa using List.find?_some hf
 have hs : c.service = s := by unfold isC at h2; simp at h2; exact h2.1
 rcases idxV_cases x.services s with ⟨_, hn⟩ | ⟨ks, v, hi, hks, hfv⟩
 ·rw [hs] at h1
  exact absurd hn h1
 ·exact ⟨v, ks, hks, hi, hfv⟩

theorem cntL_bnd (s : ByteArray) (im : Int) : ∀ (l : List Scp) (t : Sct), 0 ≤ t.ready → 0 ≤ (l.foldl (fun t c => stp t c s im) t).ready ∧ (l.foldl (fun t c => stp t c s im) t).ready ≤ t.ready + (l.length : Int)
 | [], t, h => ⟨h, by simp⟩
 | c :: l, t, h => by
  have h1 : 0 ≤ (stp t c s im).ready ∧ (stp t c s im).ready ≤ t.ready + 1 := by
   unfold stp
   split
   ·split
    ·exact ⟨h, by show t.ready ≤ _; omega⟩
    ·show 0 ≤ (if c.state = 3 then t.ready + 1 else t.ready) ∧ (if c.state = 3 then t.ready + 1 else t.ready) ≤ t.ready + 1
     split <;> omega
   ·exact ⟨h, by omega⟩
  have h2 := cntL_bnd s im l (stp t c s im) h1.1
  simp only [List.foldl_cons, List.length_cons]
  exact ⟨h2.1, by have := h2.2; omega⟩

theorem cntL_ready (l : List Scp) (s : ByteArray) (im : Int) : 0 ≤ (cntL l s im).ready ∧ (cntL l s im).ready ≤ (l.length : Int) := by
 have h := cntL_bnd s im l ⟨0, 0, 0, 0, 0⟩ (by decide)
 exact ⟨h.1, by have := h.2; unfold cntL; simpa using this⟩

set_option maxHeartbeats 8000000 in
set_option maxRecDepth 100000 in
theorem mayEnd20_any (x : Sbk) (a1 : Option Addr) (c1 : Nat) (a2 : Option Addr) (c2 : Nat) (a3 : Option Addr) (c3 : Nat) (lo : Nat) (s : ByteArray) (n : Int) (w : World) (n1 : SliceC SsvC 13 lo w a1 x.services) (n2 : SliceC ScpC 7 lo w a2 x.copies) (hv : SWk x) :
  Calls Tryz.prog 72 #[.agg #[.int .i64 x.now, .slice a1 x.services.length c1, .slice a2 x.copies.length c2, .slice a3 x.berths.length c3], .string s, .int .i64 n] w fun e w' => e = .returned (.bool (mayB x s n)) ∧ Below w.heap.size w w' := by
 have HN1 := Hid.intro n1
 have HN2 := Hid.intro n2
 have HV := Hid.intro hv
 have l1 := hv.l1
 have l2 := hv.l2
 clear n1 n2 hv
 have HB1 : Hid (Blk w.heap.size #[.int .i64 x.now, .slice a1 x.services.length c1, .slice a2 x.copies.length c2, .slice a3 x.berths.length c3] 34 (w.alloc (Obj.cells #[.int .i64 x.now, .slice a1 x.services.length c1, .slice a2 x.copies.length c2, .slice a3 x.berths.length c3] 34))) := Blk.alloc _ _ _
 have hB1 : Below w.heap.size w (w.alloc (Obj.cells #[.int .i64 x.now, .slice a1 x.services.length c1, .slice a2 x.copies.length c2, .slice a3 x.berths.length c3] 34)) := by go_grown
 go_enter Tryz.func72, Tryz.ntmps72
 go_upto_region 1 with fail
 generalize w.alloc (Obj.cells #[.int .i64 x.now, .slice a1 x.services.length c1, .slice a2 x.copies.length c2, .slice a3 x.berths.length c3] 34) = w1 at *
 go_wp2_with (refine wpList_load_mid rfl 34 _ rfl w.heap.size 0 rfl [.int .i64 x.now, .slice a1 x.services.length c1, .slice a2 x.copies.length c2, .slice a3 x.berths.length c3] _ HB1.out.rangeA Tryz.underlying34 rfl isz_Sbk ?_)
 refine (copy_at x a1 c1 a2 c2 a3 c3 lo s n _ (HN2.out.below ScpC.holds hB1 (Nat.le_refl _)) (by omega)).mono ?_
 rintro e w2 ⟨rfl, hb⟩
 have HB2 := Hid.intro (HB1.out.below hb HB1.out.lt)
 have hB2 := hB1.trans (hb.mono hB1.size)
 clear hb HB1 hB1
 rcases idxC_cases x.copies s n with ⟨hi, hn⟩ | ⟨k, c, hi, hk, hf⟩
 ·rw [hi]
  have HE : Hid (mayB x s n = false) := by show _ = _; unfold mayB; rw [hn]
  clear hi hn
  go_wp2_with fail
  go_ret
  exact ⟨ret_bool HE.out.symm, hB2⟩
 rw [hi]
 have hkl : k < x.copies.length := (List.getElem?_eq_some_iff.1 hk).1
 obtain ⟨v, ks, hks, hix, hfv⟩ := copy_service HV.out hk hf
 have hvb := HV.out.s1 ks v hks
 have hrd := cntL_ready x.copies s v.image
 obtain ⟨hw0, hw1, hd0, hd1⟩ := hvb
 obtain ⟨b2, o2, ea, _, hbl, hcl⟩ := HN2.out.at hk
 subst ea
 obtain ⟨q0, q1, q2, q3, q4, q5, q6, z0, z1⟩ := hcl
 have HC4 : Hid (w.cell? ⟨b2, o2 + k * 7 + 4, none⟩ = some (.int .i64 c.state)) := q4
 have HC5 : Hid (w.cell? ⟨b2, o2 + k * 7 + 5, none⟩ = some (.bool c.ending)) := q5
 have HE : Hid (mayB x s n = (!c.ending && (!(c.state == 3) || v.gone || decide (v.want - v.down ≤ (cntL x.copies s v.image).ready - 1)))) := by show _ = _; unfold mayB; rw [hf, hfv]
 have HCS : Hid (cntS x s = cntL x.copies s v.image) := by show _ = _; unfold cntS; rw [hfv]
 obtain ⟨b1, o1, ea, _, hbv, hcl⟩ := HN1.out.at hks
 subst ea
 have HRV := Hid.intro (rngSsv hcl)
 have hksl : ks < x.services.length := (List.getElem?_eq_some_iff.1 hks).1
 have HIX := Hid.intro hix
 clear q0 q1 q2 q3 q4 q5 q6 z0 z1 hcl hi hk hf hfv hks hix
 obtain ⟨T, hT⟩ : ∃ T, T = cntL x.copies s v.image := ⟨_, rfl⟩
 rw [← hT] at HE HCS hrd
 clear hT
 obtain ⟨hr0, hr1⟩ := hrd
 cases hen : c.ending with
 | true =>
  have k5 : w2.cell? ⟨b2, o2 + k * 7 + 5, none⟩ = some (.bool true) := by rw [← hen]; exact (hB2.cell (p := ⟨b2, o2 + k * 7 + 5, none⟩) hbl).trans HC5.out
  have k2 : w2.cell? ⟨w.heap.size, 2, none⟩ = some (.slice (some ⟨b2, o2, none⟩) x.copies.length c2) := HB2.out.cell rfl
  go_wp2_with fail
  go_ret
  exact ⟨ret_bool (by rw [HE.out, hen]; rfl), hB2⟩
 | false =>
  have k5 : w2.cell? ⟨b2, o2 + k * 7 + 5, none⟩ = some (.bool false) := by rw [← hen]; exact (hB2.cell (p := ⟨b2, o2 + k * 7 + 5, none⟩) hbl).trans HC5.out
  have k2 : w2.cell? ⟨w.heap.size, 2, none⟩ = some (.slice (some ⟨b2, o2, none⟩) x.copies.length c2) := HB2.out.cell rfl
  have HEN := Hid.intro hen
  clear hen
  go_upto_region 4 with fail
  clear k5 k2
  go_cut [8] (fun p wz => ∃ gs : Nat, p = .pointer (some ⟨gs, 0, none⟩) ∧ Hid (Blk gs #[.string v.name, .int .i64 v.version, .bool v.gone, .int .i64 v.image, .int .i64 v.want, .int .i64 v.down, .int .i64 v.over, .int .i64 v.next, .int .i64 v.per, .int .i64 v.least, .int .i64 v.most, .int .i64 v.load, .int .i64 v.cool] 50 wz) ∧ Hid (Blk w.heap.size #[.int .i64 x.now, .slice (some ⟨b1, o1, none⟩) x.services.length c1, .slice (some ⟨b2, o2, none⟩) x.copies.length c2, .slice a3 x.berths.length c3] 34 wz) ∧ Below w.heap.size w wz)
  case first =>
   have HSB : Hid (∀ wz, Below w.heap.size w wz → Blk w.heap.size #[.int .i64 x.now, .slice (some ⟨b1, o1, none⟩) x.services.length c1, .slice (some ⟨b2, o2, none⟩) x.copies.length c2, .slice a3 x.berths.length c3] 34 wz → (fun wy => Blk w.heap.size #[.int .i64 x.now, .slice (some ⟨b1, o1, none⟩) x.services.length c1, .slice (some ⟨b2, o2, none⟩) x.copies.length c2, .slice a3 x.berths.length c3] 34 wy ∧ wy.rangeAt b1 (o1 + ks * 13) [.string v.name, .int .i64 v.version, .bool v.gone, .int .i64 v.image, .int .i64 v.want, .int .i64 v.down, .int .i64 v.over, .int .i64 v.next, .int .i64 v.per, .int .i64 v.least, .int .i64 v.most, .int .i64 v.load, .int .i64 v.cool]) wz) := fun wz hb h => ⟨h, rngB HRV.out hb hbv⟩
   refine wp_region_held_drew (S := fun wy => Blk w.heap.size #[.int .i64 x.now, .slice (some ⟨b1, o1, none⟩) x.services.length c1, .slice (some ⟨b2, o2, none⟩) x.copies.length c2, .slice a3 x.berths.length c3] 34 wy ∧ wy.rangeAt b1 (o1 + ks * 13) [.string v.name, .int .i64 v.version, .bool v.gone, .int .i64 v.image, .int .i64 v.want, .int .i64 v.down, .int .i64 v.over, .int .i64 v.next, .int .i64 v.per, .int .i64 v.least, .int .i64 v.most, .int .i64 v.load, .int .i64 v.cool]) (by kernel_rfl) (HSB.out _ hB2.drew HB2.out.drew) (fun hS => ?_)
   replace HB2 := Hid.intro HB2.out.drew
   replace hB2 := hB2.drew
   generalize w2.drew = wn at *
   refine tz 0 23 (.pointer (some ⟨w.heap.size, 1, none⟩)) rfl hS ?_
   simp only [pA,pB,pC,pD]
   refine ty 1 ⟨some 24, _, _, _, _, none⟩ (.slice (some ⟨b1, o1, none⟩) x.services.length c1) rfl (by rfl) ?_ hS ?_
   ·intro wy hy
    have h := id hy
    have h0 := h.1.cell (o := 1) rfl
    clear hy
    go_simp
   simp only [pA,pB,pC,pD]
   refine tm 2 25 w.heap.size 0 [.int .i64 x.now, .slice (some ⟨b1, o1, none⟩) x.services.length c1, .slice (some ⟨b2, o2, none⟩) x.copies.length c2, .slice a3 x.berths.length c3] rfl (fun _ h => h.1.rangeA) Tryz.underlying34 isz_Sbk hS ?_
   simp only [pA,pB,pC,pD]
   refine tz 3 26 (.string s) rfl hS ?_
   simp only [pA,pB,pC,pD]
   refine wpAnyH_ready (rs := [4, 7]) (by kernel_rfl) (by simp) (AllReadyH.cons (o := ⟨some 27, _, _, _, _, none⟩) rfl (fun KK hKK => ?_) (AllReadyH.cons (o := ⟨some 8, _, _, _, _, none⟩) rfl (fun KK hKK => ?_) AllReadyH.nil))
   ·skip
    go_simp
    refine (service_at x _ c1 _ c2 a3 c3 lo s _ (HN1.out.below SsvC.holds hB2 (Nat.le_refl _)) (by omega)).mono ?_
    rintro e wn ⟨rfl, hb⟩
    rw [HIX.out]
    replace HB2 := Hid.intro (HB2.out.below hb HB2.out.lt)
    replace hB2 := hB2.trans (hb.mono hB2.size)
    refine hKK.out _ _ (HSB.out _ hB2 HB2.out) (fun hS => ?_)
    clear hKK KK hb
    refine ty 5 ⟨some 28, _, _, _, _, none⟩ (.pointer (some ⟨b1, o1 + ks * 13, none⟩)) rfl (by rfl) ?_ hS ?_
    ·intro wy hy
     clear hy
     first | (go_simp; done) | (go_simp; omega) | (go_simp; intro hh; omega)
    simp only [pA,pB,pC,pD]
    refine tm 6 29 b1 (o1 + ks * 13) [.string v.name, .int .i64 v.version, .bool v.gone, .int .i64 v.image, .int .i64 v.want, .int .i64 v.down, .int .i64 v.over, .int .i64 v.next, .int .i64 v.per, .int .i64 v.least, .int .i64 v.most, .int .i64 v.load, .int .i64 v.cool] rfl (fun _ h => h.2) Tryz.underlying50 isz_Ssv hS ?_
    simp only [pA,pB,pC,pD]
    refine rd1 7 ⟨some 8, _, _, _, _, none⟩ rfl (fun KK hKK => ?_)
    go_simp
    have hba : Below wn.heap.size wn (wn.alloc (Obj.cells #[.string ⟨#[]⟩, .int .i64 0, .bool false, .int .i64 0, .int .i64 0, .int .i64 0, .int .i64 0, .int .i64 0, .int .i64 0, .int .i64 0, .int .i64 0, .int .i64 0, .int .i64 0] 50)) := (Below.refl _ _).alloc (Nat.le_refl _) _
    have HG : Hid (Blk wn.heap.size #[.string ⟨#[]⟩, .int .i64 0, .bool false, .int .i64 0, .int .i64 0, .int .i64 0, .int .i64 0, .int .i64 0, .int .i64 0, .int .i64 0, .int .i64 0, .int .i64 0, .int .i64 0] 50 (wn.alloc (Obj.cells #[.string ⟨#[]⟩, .int .i64 0, .bool false, .int .i64 0, .int .i64 0, .int .i64 0, .int .i64 0, .int .i64 0, .int .i64 0, .int .i64 0, .int .i64 0, .int .i64 0, .int .i64 0] 50))) := Blk.alloc _ _ _
    have hgs : w.heap.size < wn.heap.size := HB2.out.lt
    replace HB2 := Hid.intro (HB2.out.below hba HB2.out.lt)
    replace hB2 := hB2.trans (hba.mono hB2.size)
    refine hKK.out _ _ (HSB.out _ hB2 HB2.out) (fun hS => ?_)
    clear hKK KK hba
    generalize wn.heap.size = gs at *
    generalize wn.alloc (Obj.cells #[.string ⟨#[]⟩, .int .i64 0, .bool false, .int .i64 0, .int .i64 0, .int .i64 0, .int .i64 0, .int .i64 0, .int .i64 0, .int .i64 0, .int .i64 0, .int .i64 0, .int .i64 0] 50) = wn at *
    refine rd1 8 ⟨none, _, _, _, _, none⟩ rfl (fun KK hKK => ?_)
    rw [if_pos (by rfl)]
    refine wp_store_mid 50 (.tmp 8) (.tmp 29) (by rfl) gs 0 #[.string v.name, .int .i64 v.version, .bool v.gone, .int .i64 v.image, .int .i64 v.want, .int .i64 v.down, .int .i64 v.over, .int .i64 v.next, .int .i64 v.per, .int .i64 v.least, .int .i64 v.most, .int .i64 v.load, .int .i64 v.cool] (by rfl) (by rfl) HG.out.there isz_Ssv (by simp [Value.oneCell']) ?_
    have HG9 : Hid (Blk gs #[.string v.name, .int .i64 v.version, .bool v.gone, .int .i64 v.image, .int .i64 v.want, .int .i64 v.down, .int .i64 v.over, .int .i64 v.next, .int .i64 v.per, .int .i64 v.least, .int .i64 v.most, .int .i64 v.load, .int .i64 v.cool] 50 (wn.setCells gs 0 [.string v.name, .int .i64 v.version, .bool v.gone, .int .i64 v.image, .int .i64 v.want, .int .i64 v.down, .int .i64 v.over, .int .i64 v.next, .int .i64 v.per, .int .i64 v.least, .int .i64 v.most, .int .i64 v.load, .int .i64 v.cool])) := HG.out.setAll #[.string v.name, .int .i64 v.version, .bool v.gone, .int .i64 v.image, .int .i64 v.want, .int .i64 v.down, .int .i64 v.over, .int .i64 v.next, .int .i64 v.per, .int .i64 v.least, .int .i64 v.most, .int .i64 v.load, .int .i64 v.cool] rfl
    have HB9 : Hid (Blk w.heap.size #[.int .i64 x.now, .slice (some ⟨b1, o1, none⟩) x.services.length c1, .slice (some ⟨b2, o2, none⟩) x.copies.length c2, .slice a3 x.berths.length c3] 34 (wn.setCells gs 0 [.string v.name, .int .i64 v.version, .bool v.gone, .int .i64 v.image, .int .i64 v.want, .int .i64 v.down, .int .i64 v.over, .int .i64 v.next, .int .i64 v.per, .int .i64 v.least, .int .i64 v.most, .int .i64 v.load, .int .i64 v.cool])) := blk_setCells_other (by omega) _ _ _ HB2.out
    have hB9 : Below w.heap.size w (wn.setCells gs 0 [.string v.name, .int .i64 v.version, .bool v.gone, .int .i64 v.image, .int .i64 v.want, .int .i64 v.down, .int .i64 v.over, .int .i64 v.next, .int .i64 v.per, .int .i64 v.least, .int .i64 v.most, .int .i64 v.load, .int .i64 v.cool]) := below_setCells (by omega) _ _ _ hB2
    refine hKK.out _ _ (HSB.out _ hB9 HB9.out) (fun hS => ?_)
    clear hKK KK hS
    refine wpAnyH_done (by kernel_rfl) ?_ _
    go_wp2_with fail
    go_meet
    exact ⟨gs, rfl, HG9, HB9, hB9⟩
   ·skip
    go_simp
    have hba : Below wn.heap.size wn (wn.alloc (Obj.cells #[.string ⟨#[]⟩, .int .i64 0, .bool false, .int .i64 0, .int .i64 0, .int .i64 0, .int .i64 0, .int .i64 0, .int .i64 0, .int .i64 0, .int .i64 0, .int .i64 0, .int .i64 0] 50)) := (Below.refl _ _).alloc (Nat.le_refl _) _
    have HG : Hid (Blk wn.heap.size #[.string ⟨#[]⟩, .int .i64 0, .bool false, .int .i64 0, .int .i64 0, .int .i64 0, .int .i64 0, .int .i64 0, .int .i64 0, .int .i64 0, .int .i64 0, .int .i64 0, .int .i64 0] 50 (wn.alloc (Obj.cells #[.string ⟨#[]⟩, .int .i64 0, .bool false, .int .i64 0, .int .i64 0, .int .i64 0, .int .i64 0, .int .i64 0, .int .i64 0, .int .i64 0, .int .i64 0, .int .i64 0, .int .i64 0] 50))) := Blk.alloc _ _ _
    have hgs : w.heap.size < wn.heap.size := HB2.out.lt
    replace HB2 := Hid.intro (HB2.out.below hba HB2.out.lt)
    replace hB2 := hB2.trans (hba.mono hB2.size)
    refine hKK.out _ _ (HSB.out _ hB2 HB2.out) (fun hS => ?_)
    clear hKK KK hba
    generalize wn.heap.size = gs at *
    generalize wn.alloc (Obj.cells #[.string ⟨#[]⟩, .int .i64 0, .bool false, .int .i64 0, .int .i64 0, .int .i64 0, .int .i64 0, .int .i64 0, .int .i64 0, .int .i64 0, .int .i64 0, .int .i64 0, .int .i64 0] 50) = wn at *
    refine rd1 4 ⟨some 27, _, _, _, _, none⟩ rfl (fun KK hKK => ?_)
    go_simp
    refine (service_at x _ c1 _ c2 a3 c3 lo s _ (HN1.out.below SsvC.holds hB2 (Nat.le_refl _)) (by omega)).mono ?_
    rintro e wn ⟨rfl, hb⟩
    rw [HIX.out]
    replace HB2 := Hid.intro (HB2.out.below hb HB2.out.lt)
    replace hB2 := hB2.trans (hb.mono hB2.size)
    replace HG := Hid.intro (HG.out.below hb HG.out.lt)
    refine hKK.out _ _ (HSB.out _ hB2 HB2.out) (fun hS => ?_)
    clear hKK KK hb
    refine ty 5 ⟨some 28, _, _, _, _, none⟩ (.pointer (some ⟨b1, o1 + ks * 13, none⟩)) rfl (by rfl) ?_ hS ?_
    ·intro wy hy
     clear hy
     first | (go_simp; done) | (go_simp; omega) | (go_simp; intro hh; omega)
    simp only [pA,pB,pC,pD]
    refine tm 6 29 b1 (o1 + ks * 13) [.string v.name, .int .i64 v.version, .bool v.gone, .int .i64 v.image, .int .i64 v.want, .int .i64 v.down, .int .i64 v.over, .int .i64 v.next, .int .i64 v.per, .int .i64 v.least, .int .i64 v.most, .int .i64 v.load, .int .i64 v.cool] rfl (fun _ h => h.2) Tryz.underlying50 isz_Ssv hS ?_
    simp only [pA,pB,pC,pD]
    refine rd1 8 ⟨none, _, _, _, _, none⟩ rfl (fun KK hKK => ?_)
    rw [if_pos (by rfl)]
    refine wp_store_mid 50 (.tmp 8) (.tmp 29) (by rfl) gs 0 #[.string v.name, .int .i64 v.version, .bool v.gone, .int .i64 v.image, .int .i64 v.want, .int .i64 v.down, .int .i64 v.over, .int .i64 v.next, .int .i64 v.per, .int .i64 v.least, .int .i64 v.most, .int .i64 v.load, .int .i64 v.cool] (by rfl) (by rfl) HG.out.there isz_Ssv (by simp [Value.oneCell']) ?_
    have HG9 : Hid (Blk gs #[.string v.name, .int .i64 v.version, .bool v.gone, .int .i64 v.image, .int .i64 v.want, .int .i64 v.down, .int .i64 v.over, .int .i64 v.next, .int .i64 v.per, .int .i64 v.least, .int .i64 v.most, .int .i64 v.load, .int .i64 v.cool] 50 (wn.setCells gs 0 [.string v.name, .int .i64 v.version, .bool v.gone, .int .i64 v.image, .int .i64 v.want, .int .i64 v.down, .int .i64 v.over, .int .i64 v.next, .int .i64 v.per, .int .i64 v.least, .int .i64 v.most, .int .i64 v.load, .int .i64 v.cool])) := HG.out.setAll #[.string v.name, .int .i64 v.version, .bool v.gone, .int .i64 v.image, .int .i64 v.want, .int .i64 v.down, .int .i64 v.over, .int .i64 v.next, .int .i64 v.per, .int .i64 v.least, .int .i64 v.most, .int .i64 v.load, .int .i64 v.cool] rfl
    have HB9 : Hid (Blk w.heap.size #[.int .i64 x.now, .slice (some ⟨b1, o1, none⟩) x.services.length c1, .slice (some ⟨b2, o2, none⟩) x.copies.length c2, .slice a3 x.berths.length c3] 34 (wn.setCells gs 0 [.string v.name, .int .i64 v.version, .bool v.gone, .int .i64 v.image, .int .i64 v.want, .int .i64 v.down, .int .i64 v.over, .int .i64 v.next, .int .i64 v.per, .int .i64 v.least, .int .i64 v.most, .int .i64 v.load, .int .i64 v.cool])) := blk_setCells_other (by omega) _ _ _ HB2.out
    have hB9 : Below w.heap.size w (wn.setCells gs 0 [.string v.name, .int .i64 v.version, .bool v.gone, .int .i64 v.image, .int .i64 v.want, .int .i64 v.down, .int .i64 v.over, .int .i64 v.next, .int .i64 v.per, .int .i64 v.least, .int .i64 v.most, .int .i64 v.load, .int .i64 v.cool]) := below_setCells (by omega) _ _ _ hB2
    refine hKK.out _ _ (HSB.out _ hB9 HB9.out) (fun hS => ?_)
    clear hKK KK hS
    refine wpAnyH_done (by kernel_rfl) ?_ _
    go_wp2_with fail
    go_meet
    exact ⟨gs, rfl, HG9, HB9, hB9⟩
  case rest =>
   obtain ⟨gs, rfl, HG, HB3, hB3⟩ := hcut
   clear HB2 hB2
   generalize wc = w3 at *
   have k2 : w3.cell? ⟨w.heap.size, 2, none⟩ = some (.slice (some ⟨b2, o2, none⟩) x.copies.length c2) := HB3.out.cell rfl
   have k4 : w3.cell? ⟨b2, o2 + k * 7 + 4, none⟩ = some (.int .i64 c.state) := (hB3.cell (p := ⟨b2, o2 + k * 7 + 4, none⟩) hbl).trans HC4.out
   by_cases h3 : c.state = 3
   case neg =>
    have g3 : (c.state == 3) = false := by simpa using h3
    have HG3 := Hid.intro g3
    have g4 : (c.state != 3) = true := by simpa using h3
    clear g3
    go_wp2_with fail
    go_ret
    exact ⟨ret_bool (by rw [HE.out, HEN.out, HG3.out]; rfl), hB3⟩
   have g3 : Hid ((c.state == 3) = true) := by show _ = _; rw [h3]; rfl
   rw [h3] at k4
   clear h3
   cases hgn : v.gone with
   | true =>
    have kg : w3.cell? ⟨gs, 2, none⟩ = some (.bool true) := by rw [← hgn]; exact HG.out.cell rfl
    go_wp2_with fail
    go_ret
    exact ⟨ret_bool (by rw [HE.out, HEN.out, g3.out, hgn]; rfl), hB3⟩
   | false =>
    have kg : w3.cell? ⟨gs, 2, none⟩ = some (.bool false) := by rw [← hgn]; exact HG.out.cell rfl
    have HE2 : Hid (mayB x s n = decide (v.want - v.down ≤ T.ready - 1)) := by show _ = _; rw [HE.out, HEN.out, g3.out, hgn]; simp
    clear hgn HE HEN
    go_upto_region 7 with fail
    clear kg k2 k4 g3
    have hfd : ∀ u : World, (Instr.field 94 (.agg #[.int .i64 T.live, .int .i64 T.ready, .int .i64 T.old, .int .i64 T.failed, .int .i64 T.ending]) 1).run Tryz.prog u = .ok (.int .i64 T.ready) u := fun _ => by kernel_rfl
    refine wp_region_held_drew (S := fun wy => Blk w.heap.size #[.int .i64 x.now, .slice (some ⟨b1, o1, none⟩) x.services.length c1, .slice (some ⟨b2, o2, none⟩) x.copies.length c2, .slice a3 x.berths.length c3] 34 wy ∧ Blk gs #[.string v.name, .int .i64 v.version, .bool v.gone, .int .i64 v.image, .int .i64 v.want, .int .i64 v.down, .int .i64 v.over, .int .i64 v.next, .int .i64 v.per, .int .i64 v.least, .int .i64 v.most, .int .i64 v.load, .int .i64 v.cool] 50 wy) (by kernel_rfl) ⟨HB3.out.drew, HG.out.drew⟩ (fun hS => ?_)
    replace hB3 := hB3.drew
    replace HB3 := Hid.intro HB3.out.drew
    replace HG := Hid.intro HG.out.drew
    generalize w3.drew = wn at *
    refine tm 0 41 w.heap.size 0 [.int .i64 x.now, .slice (some ⟨b1, o1, none⟩) x.services.length c1, .slice (some ⟨b2, o2, none⟩) x.copies.length c2, .slice a3 x.berths.length c3] rfl (fun _ h => h.1.rangeA) Tryz.underlying34 isz_Sbk hS ?_
    simp only [pA,pB,pC,pD]
    refine tz 1 42 (.string s) rfl hS ?_
    simp only [pA,pB,pC,pD]
    refine tz 5 46 (.pointer (some ⟨gs, 4, none⟩)) rfl hS ?_
    simp only [pA,pB,pC,pD]
    refine ty 6 ⟨some 47, _, _, _, _, none⟩ (.int .i64 v.want) rfl (by rfl) ?_ hS ?_
    ·intro wy hy
     have h := id hy
     have h0 := h.2.cell (o := 4) rfl
     clear hy
     go_simp
    simp only [pA,pB,pC,pD]
    refine tz 7 48 (.pointer (some ⟨gs, 5, none⟩)) rfl hS ?_
    simp only [pA,pB,pC,pD]
    refine ty 8 ⟨some 49, _, _, _, _, none⟩ (.int .i64 v.down) rfl (by rfl) ?_ hS ?_
    ·intro wy hy
     have h := id hy
     have h0 := h.2.cell (o := 5) rfl
     clear hy
     go_simp
    simp only [pA,pB,pC,pD]
    refine ty 9 ⟨some 50, _, _, _, _, none⟩ (.int .i64 (v.want - v.down)) rfl (by rfl) ?_ hS ?_
    ·intro wy hy
     clear hy
     first | (go_simp; done) | (go_simp; rw [IntKind.wrap_i64]; omega) | (go_simp; omega)
    simp only [pA,pB,pC,pD]
    refine rd1 2 ⟨some 43, _, _, _, _, none⟩ rfl (fun KK hKK => ?_)
    go_simp
    refine (count19_any x _ c1 _ c2 a3 c3 lo s _ (HN1.out.below SsvC.holds hB3 (Nat.le_refl _)) (HN2.out.below ScpC.holds hB3 (Nat.le_refl _)) (by omega) (by omega)).mono ?_
    rintro e w5 ⟨rfl, hb⟩
    rw [HCS.out]
    replace hB3 := hB3.trans (hb.mono hB3.size)
    refine hKK.out _ _ ⟨hS.1.below hb hS.1.lt, hS.2.below hb hS.2.lt⟩ (fun hS => ?_)
    clear hKK KK hb
    refine ty 3 ⟨some 44, _, _, _, _, none⟩ (.int .i64 T.ready) rfl (by rfl) ?_ hS ?_
    ·intro wy hy
     clear hy
     first | (go_simp; done) | (simp [go_sem, hfd]; done) | (unfold execOp; simp [go_sem, hfd]; done)
    simp only [pA,pB,pC,pD]
    refine ty 4 ⟨some 45, _, _, _, _, none⟩ (.int .i64 (T.ready - 1)) rfl (by rfl) ?_ hS ?_
    ·intro wy hy
     clear hy
     first | (go_simp; done) | (go_simp; rw [IntKind.wrap_i64]; omega) | (go_simp; omega)
    simp only [pA,pB,pC,pD]
    obtain ⟨q, hq⟩ : ∃ q : Bool, q = decide (v.want - v.down ≤ T.ready - 1) := ⟨_, rfl⟩
    refine ty 10 ⟨some 51, _, _, _, _, none⟩ (.bool q) rfl (by rfl) ?_ hS ?_
    ·intro wy hy
     clear hy
     first | (go_simp; exact hq.symm) | (rw [hq]; go_simp; done) | (go_simp; done)
    simp only [pA,pB,pC,pD]
    refine tz 11 6 (.bool q) rfl hS ?_
    simp only [pA,pB,pC,pD]
    refine wpAnyH_done (by kernel_rfl) ?_ _
    clear hS
    go_wp2_with fail
    go_ret
    exact ⟨ret_bool (by rw [HE2.out, ← hq]), hB3⟩

end Go.Proofs.YtnggdpjfmpjlhaaGreat

namespace Go.Proofs.YtnggdpjfmpjlhaaGreat
open Go.RowKit

def IntC : Make Int := fun _ _ f x => f 0 = some (.int .i64 x)

theorem IntC.holds : Holds IntC 1 := fun _ _ _ _ f g x h _ _ c => (h 0 (by omega)).trans c

theorem info_int : (Tryz.prog.info? 3).map (fun i => (i.zero, i.size, i.bytes)) = some (some (.int .i64 0), 1, 8) := by kernel_rfl

end Go.Proofs.YtnggdpjfmpjlhaaGreat
