/-
  Several texts in one: Hqw, Mkt, Mrk.
-/
import Derived.Test.YtggbhggnemlpnaaGreatHqs
import Derived.Test.YtggbhggnemlpnaaGreatSp3
import Derived.Test.YtggbhggnemlpnaaGreatJ39
import Derived.Test.YtggbhggnemlpnaaGreatShp
import Derived.Laws.IdiomStrings
namespace Go.Proofs.YtggbhggnemlpnaaGreat
open Go.RowKit Go.WideMaps Go.Maps

set_option maxHeartbeats 4000000 in
set_option maxRecDepth 100000 in
theorem specQueue_any (x : Flt) (a1 : Option Addr) (c1 : Nat) (a2 : Option Addr) (c2 : Nat) (a3 : Option Addr) (c3 : Nat) (lo : Nat) (w : World) (n1 : SliceC BrtC 6 lo w a1 x.berths) (n2 : SliceC SvcC 2 lo w a2 x.services) (n3 : SliceC CpyC 12 lo w a3 x.copies)
    (l1 : x.berths.length ≤ 1048576) (l2 : x.services.length ≤ 1048576) (l3 : x.copies.length ≤ 1048576) :
    Calls Tryz.prog 6 #[.agg #[.bool x.pack, .slice a1 x.berths.length c1, .slice a2 x.services.length c2, .slice a3 x.copies.length c3]] w fun e w' => QlRes (queL x) w e w' := by
  have N1 := Hid.intro n1
  have N2 := Hid.intro n2
  have N3 := Hid.intro n3
  have HE := Hid.intro (valid_eq x l3)
  clear n1 n2 n3
  have hb1 : Below w.heap.size w (w.alloc (Obj.cells #[.bool x.pack, .slice a1 x.berths.length c1, .slice a2 x.services.length c2, .slice a3 x.copies.length c3] 34)) := by go_grown
  have HF1 : Hid (FltIn w.heap.size x a1 c1 a2 c2 a3 c3 (w.alloc (Obj.cells #[.bool x.pack, .slice a1 x.berths.length c1, .slice a2 x.services.length c2, .slice a3 x.copies.length c3] 34))) := ⟨by simp, by simp, by simp, by simp⟩
  have hs1 : (w.alloc (Obj.cells #[.bool x.pack, .slice a1 x.berths.length c1, .slice a2 x.services.length c2, .slice a3 x.copies.length c3] 34)).heap.size = w.heap.size + 1 := by simp
  go_enter Tryz.func6, Tryz.ntmps6
  go_upto_region 1 with fail
  generalize w.alloc (Obj.cells #[.bool x.pack, .slice a1 x.berths.length c1, .slice a2 x.services.length c2, .slice a3 x.copies.length c3] 34) = w1 at *
  obtain ⟨f0, f1, f2, f3⟩ := HF1.out
  go_wp2_with fail
  refine (specValid_any x a1 c1 a2 c2 a3 c3 lo _ (N1.out.below BrtC.holds hb1 (Nat.le_refl _)) (N2.out.below SvcC.holds hb1 (Nat.le_refl _)) (N3.out.below CpyC.holds hb1 (Nat.le_refl _)) l1 l2 l3).mono ?_
  rintro e w4 ⟨rfl, hb4⟩
  have hB4 : Below w.heap.size w w4 := hb1.trans (hb4.mono hb1.size)
  have HF4 := Hid.intro (HF1.out.below hb4 (block_lt_of_cell f0))
  have hz4 : w.heap.size + 1 ≤ w4.heap.size := by have := hb4.size; omega
  clear hb4 f0 f1 f2 f3 hb1 hs1 HF1
  obtain ⟨f0, f1, f2, f3⟩ := HF4.out
  cases hv : validS x with
  | false =>
    have HQ : Hid (queL x = []) := by show _ = _; unfold queL; rw [if_neg (by rw [HE.out, hv]; decide)]
    have hB5 : Below w.heap.size w (w4.alloc (Obj.cells #[] 9)) := hB4.alloc hB4.size _
    clear hv
    go_wp2_with fail
    go_ret
    exact ⟨some ⟨w4.heap.size, 0, none⟩, 0, by rw [HQ.out]; rfl, by rw [HQ.out]; exact SliceC.nil, hB5⟩
  | true =>
    have HV : Hid (validI x = true) := HE.out.trans hv
    have HQ : Hid (queL x = (qTo x x.copies.length).map (nmQ x)) := by show _ = _; unfold queL; rw [if_pos HV.out]
    have hl60 : x.copies.length ≤ 60 := (valid_parts HV.out).2.1
    clear hv
    go_wp2_with fail
    refine (l5Queue_any x a1 c1 a2 c2 a3 c3 lo _ (N3.out.below CpyC.holds hB4 (Nat.le_refl _)) hl60 (by have h9 := (queL_small x).2.2; rw [HQ.out] at h9; exact h9)).mono ?_
    rintro e w5 ⟨a, cap, rfl, hs5, hb5⟩
    have hB5 : Below w.heap.size w w5 := hB4.trans (hb5.mono hB4.size)
    have HS5 := Hid.intro hs5
    clear hs5 hb5
    go_wp2_with fail
    go_ret
    exact ⟨a, cap, by rw [HQ.out]; first | rfl | simp, by rw [HQ.out]; exact HS5.out.keep StrC.holds (Keeps.refl _ _) (by omega), hB5⟩

end Go.Proofs.YtggbhggnemlpnaaGreat

namespace Go.Proofs.YtggbhggnemlpnaaGreat
open Go.RowKit

def dgOf (j : Nat) : UInt8 := UInt8.ofNat (48 + j % 10)
def mtGo : Nat → Nat → ByteArray → ByteArray
  | 0, _, s => s
  | f + 1, j, s => if j = 0 then s else mtGo f (j / 10) (⟨#[dgOf j]⟩ ++ s)
def mtOf (k : Nat) : ByteArray := ⟨#[109]⟩ ++ mtGo 3000 k ⟨#[]⟩

theorem mtGo_end (f : Nat) (s : ByteArray) : mtGo f 0 s = s := by
  cases f with
  | zero => rfl
  | succ f => simp [mtGo]

theorem dg_nat (j : Nat) : ((dgOf j).toNat : Int) = 48 + (j : Int) % 10 := by
  have h : (dgOf j).toNat = 48 + j % 10 := by
    unfold dgOf
    rw [UInt8.toNat_ofNat']
    omega
  rw [h]
  omega

set_option maxHeartbeats 1000000 in
set_option maxRecDepth 100000 in
theorem markText_any (k : Nat) (w : World) (h0 : 0 < k) (h1 : k ≤ 1073741824) :
    Calls Tryz.prog 39 #[.int .i64 k] w fun e w' => e = .returned (.string (mtOf k)) ∧ Below w.heap.size w w' := by
  have HR : Hid (mtOf k = ⟨#[109]⟩ ++ mtGo 3000 k ⟨#[]⟩) := rfl
  generalize mtOf k = M at *
  go_enter Tryz.func39, Tryz.ntmps39
  go_wp2_with fail
  go_loopw [0, 3] (fun v o wr => ∃ (j f : Nat) (s : ByteArray), v = .int .i64 j ∧ o = .string s ∧ j ≤ 1073741824 ∧ Hid ((∃ e, j < 10 ^ e ∧ e ≤ f) ∧ s.size + f = 3000 ∧ mtGo f j s = mtGo 3000 k ⟨#[]⟩) ∧ Below w.heap.size w wr) (fun v _ _ => (intOf v).toNat)
  case atStart => exact ⟨k, 3000, _, rfl, rfl, by omega, ⟨⟨10, by omega, by omega⟩, rfl, rfl⟩, Below.refl _ _⟩
  case round =>
    obtain ⟨j, f, s, rfl, rfl, hj, HF, hbel⟩ := hrel
    by_cases hp : 0 < j
    · have hcv : (convert 117 9 (.slice (some ⟨wr.heap.size, 0, none⟩) 1 1)).run Tryz.prog (wr.alloc (Obj.cells #[.int .u8 (48 + (j : Int) % 10)] 5)) = .ok (.string ⟨#[dgOf j]⟩) (wr.alloc (Obj.cells #[.int .u8 (48 + (j : Int) % 10)] 5)) :=
        run_convert_bytes_back _ _ _ 5 ⟨wr.heap.size, 0, none⟩ 1 [dgOf j] Tryz.underlying117 Tryz.underlying5 Tryz.underlying9 (fun i hi => by
          have : i = 0 := by simpa using hi
          subst this
          rw [← dg_nat, Addr.add_mid, World.cell?_alloc_at _ _ _ _ (by rfl)]
          rfl)
      obtain ⟨g, rfl⟩ : ∃ g, f = g + 1 := by
        obtain ⟨e, he, hf⟩ := HF.out.1
        cases e with
        | zero => simp at he; omega
        | succ e => exact ⟨f - 1, by omega⟩
      have HN : Hid ((∃ e, j / 10 < 10 ^ e ∧ e ≤ g) ∧ ((⟨#[dgOf j]⟩ : ByteArray) ++ s).size + g = 3000 ∧ mtGo g (j / 10) (⟨#[dgOf j]⟩ ++ s) = mtGo 3000 k ⟨#[]⟩) := by
        obtain ⟨a, b, c⟩ := HF.out
        refine ⟨?_, ?_, ?_⟩
        · obtain ⟨e, he, hf⟩ := a
          cases e with
          | zero => simp at he; omega
          | succ e => exact ⟨e, by rw [Nat.pow_succ] at he; omega, by omega⟩
        · rw [ByteArray.size_append]
          show 1 + _ + _ = _
          omega
        · rw [← c]
          simp only [mtGo]
          rw [if_neg (by omega)]
      have hss : s.size ≤ 3000 := by have := HF.out.2.1; omega
      clear HF
      go_wp2_with fail
      go_roundw
      case rel => exact ⟨j / 10, g, _, by congr 1, rfl, by omega, HN, hbel.alloc hbel.size _⟩
      case measure => simp [intOf]; omega
    · have hj0 : j = 0 := by omega
      subst hj0
      have HS : Hid (M = ⟨#[109]⟩ ++ s) := by
        show _ = _
        rw [HR.out, ← HF.out.2.2, mtGo_end]
      have hss : s.size ≤ 3000 := by have := HF.out.2.1; omega
      clear HF
      go_wp2_with fail
      go_ret
      exact ⟨by rw [HS.out]; rfl, hbel⟩

end Go.Proofs.YtggbhggnemlpnaaGreat

namespace Go.Proofs.YtggbhggnemlpnaaGreat
open Go.RowKit

def isSl : Value → Bool
  | .slice _ _ _ => true
  | _ => false

/-- wx: the world in which the copy was just made (its memory lies from block lo on); ws: the world in which marking began; w: now. Only what lies in the copy is written, and no slice in it. -/
structure Mkd (lo : Nat) (wx ws w : World) : Prop where
  bel : Below lo ws w
  up : ∀ b o, wx.heap.size ≤ b → b < ws.heap.size → w.cell? ⟨b, o, none⟩ = ws.cell? ⟨b, o, none⟩ ∧ w.frozen? ⟨b, o, none⟩ = ws.frozen? ⟨b, o, none⟩
  sl : ∀ b o v, wx.cell? ⟨b, o, none⟩ = some v → isSl v = true → w.cell? ⟨b, o, none⟩ = some v
  so : ∀ b o v, wx.cell? ⟨b, o, none⟩ = some v → ∃ u, w.cell? ⟨b, o, none⟩ = some u
  fz : ∀ b o, b < wx.heap.size → w.frozen? ⟨b, o, none⟩ = wx.frozen? ⟨b, o, none⟩
  sz : wx.heap.size ≤ w.heap.size
  lo_ : lo ≤ wx.heap.size

theorem Mkd.start {lo : Nat} {wx ws : World} (h : Below wx.heap.size wx ws) (hl : lo ≤ wx.heap.size) : Mkd lo wx ws ws where
  bel := Below.refl _ _
  up := fun _ _ _ _ => ⟨rfl, rfl⟩
  sl := fun b o _ hv _ => (h.cell (p := ⟨b, o, none⟩) (block_lt_of_cell hv)).trans hv
  so := fun b o v hv => ⟨v, (h.cell (p := ⟨b, o, none⟩) (block_lt_of_cell hv)).trans hv⟩
  fz := fun b o hb => h.frozen (p := ⟨b, o, none⟩) hb
  sz := h.size
  lo_ := hl

theorem Mkd.below {lo : Nat} {wx ws w w' : World} (m : Mkd lo wx ws w) (h : Below w.heap.size w w') : Mkd lo wx ws w' where
  bel := m.bel.trans (h.mono (Nat.le_trans m.lo_ m.sz))
  up := fun b o h1 h2 => by
    have hb : b < w.heap.size := Nat.lt_of_lt_of_le h2 m.bel.size
    exact ⟨(h.cell (p := ⟨b, o, none⟩) hb).trans (m.up b o h1 h2).1, (h.frozen (p := ⟨b, o, none⟩) hb).trans (m.up b o h1 h2).2⟩
  sl := fun b o v hv hs => (h.cell (p := ⟨b, o, none⟩) (block_lt_of_cell (m.sl b o v hv hs))).trans (m.sl b o v hv hs)
  so := fun b o v hv => by
    obtain ⟨u, hu⟩ := m.so b o v hv
    exact ⟨u, (h.cell (p := ⟨b, o, none⟩) (block_lt_of_cell hu)).trans hu⟩
  fz := fun b o hb => (h.frozen (p := ⟨b, o, none⟩) (Nat.lt_of_lt_of_le hb m.sz)).trans (m.fz b o hb)
  sz := Nat.le_trans m.sz h.size
  lo_ := m.lo_

theorem Mkd.set {lo : Nat} {wx ws w : World} (m : Mkd lo wx ws w) {b o : Nat} {v0 : Value} (hl : lo ≤ b) (hx : wx.cell? ⟨b, o, none⟩ = some v0) (hs : isSl v0 = false) (v : Value) : Mkd lo wx ws (w.setCell ⟨b, o, none⟩ v) where
  bel := m.bel.setCell hl v
  up := fun b' o' h1 h2 => by
    have hb := block_lt_of_cell hx
    have hne : b' ≠ b := by
      have : b < wx.heap.size := hb
      omega
    refine ⟨(World.cell?_of_block (w := w) (a := ⟨b', o', none⟩) (Below.heap_setCell w ⟨b, o, none⟩ v b' hne)).trans (m.up b' o' h1 h2).1, ?_⟩
    rw [World.frozen?_setCell]
    exact (m.up b' o' h1 h2).2
  sl := fun b' o' u hu hu2 => by
    by_cases e : (⟨b, o, none⟩ : Addr) = ⟨b', o', none⟩
    · cases e
      rw [hx] at hu
      cases hu
      rw [hs] at hu2
      cases hu2
    · exact (World.cell?_setCell_other _ _ _ _ e).trans (m.sl b' o' u hu hu2)
  so := fun b' o' u hu => by
    obtain ⟨u', hu'⟩ := m.so b' o' u hu
    by_cases e : (⟨b, o, none⟩ : Addr) = ⟨b', o', none⟩
    · cases e
      exact ⟨v, World.cell?_setCell_same _ _ _ hu'⟩
    · exact ⟨u', (World.cell?_setCell_other _ _ _ _ e).trans hu'⟩
  fz := fun b' o' hb => by
    rw [World.frozen?_setCell]
    exact m.fz b' o' hb
  sz := Nat.le_trans m.sz (by simp [World.setCell])
  lo_ := m.lo_

theorem Mkd.rebase {lo : Nat} {wx ws w : World} (m : Mkd lo wx ws w) : Mkd lo wx w w where
  bel := Below.refl _ _
  up := fun _ _ _ _ => ⟨rfl, rfl⟩
  sl := m.sl
  so := m.so
  fz := m.fz
  sz := m.sz
  lo_ := m.lo_

theorem Mkd.trans {lo : Nat} {wx ws w w' : World} (m : Mkd lo wx ws w) (k : Mkd lo wx w w') : Mkd lo wx ws w' where
  bel := m.bel.trans k.bel
  up := fun b o h1 h2 => by
    have hb : b < w.heap.size := Nat.lt_of_lt_of_le h2 m.bel.size
    exact ⟨(k.up b o h1 hb).1.trans (m.up b o h1 h2).1, (k.up b o h1 hb).2.trans (m.up b o h1 h2).2⟩
  sl := k.sl
  so := k.so
  fz := k.fz
  sz := k.sz
  lo_ := k.lo_

theorem markTextZ (z : Int) (w : World) (h0 : 0 < z) (h1 : z ≤ 1073741824) :
    Calls Tryz.prog 39 #[.int .i64 z] w fun e w' => ∃ s, e = .returned (.string s) ∧ Below w.heap.size w w' := by
  obtain ⟨k, rfl⟩ : ∃ k : Nat, z = k := ⟨z.toNat, by omega⟩
  exact (markText_any k w (by omega) (by omega)).mono fun _ _ h => ⟨_, h⟩

set_option maxHeartbeats 1000000 in
set_option maxRecDepth 100000 in
theorem markStrS_any (xs : List ByteArray) (a : Option Addr) (cap lo : Nat) (z : Int) (wx ws w : World) (hin : SliceC StrC 1 lo wx a xs) (hlo : 0 < lo) (hm : Mkd lo wx ws w) (h0 : 0 < z) (h1 : z + xs.length ≤ 1073741824) :
    Calls Tryz.prog 12 #[.slice a xs.length cap, .int .i64 z] w fun e w' => e = .returned (.int .i64 (z + xs.length)) ∧ Mkd lo wx ws w' := by
  have HI := Hid.intro hin
  have HM := Hid.intro hm
  clear hin hm
  go_enter Tryz.func12, Tryz.ntmps12
  go_wp2_with fail
  go_loopw [1, 5] (fun v i wr => ∃ j : Nat, j ≤ xs.length ∧ i = .int .i64 j ∧ v = .int .i64 (z + j) ∧ Hid (Mkd lo wx ws wr)) (fun _ i _ => xs.length - (intOf i).toNat)
  case atStart => exact ⟨0, Nat.zero_le _, rfl, by simp, HM⟩
  case round =>
    clear HM
    obtain ⟨j, hj, rfl, rfl, hM⟩ := hrel
    by_cases hlt : j < xs.length
    · obtain ⟨x, hx⟩ : ∃ x, xs[j]? = some x := ⟨xs[j], List.getElem?_eq_getElem hlt⟩
      obtain ⟨b, o, rfl, hb, hbl, hc⟩ := HI.out.at hx
      obtain ⟨r0, _⟩ := hc
      simp only [Nat.mul_one, Nat.add_zero] at r0
      have HR := Hid.intro r0
      have hne : xs ≠ [] := fun e => by rw [e] at hlt; exact absurd hlt (Nat.not_lt_zero _)
      have i0 : (0 : Int) ≤ (j : Int) := by omega
      have i1 : (j : Int) < (xs.length : Int) := by omega
      clear hx r0
      go_wp2_with fail
      refine (markTextZ _ _ (by omega) (by omega)).mono ?_
      rintro e w1 ⟨s, rfl, hb1⟩
      have M1 := Hid.intro (hM.out.below hb1)
      obtain ⟨u0, c0⟩ := M1.out.so b (o + j) _ HR.out
      have f0 := (M1.out.fz b (o + j) hbl).trans (HI.out.frz hne hlo (o + j))
      have M2 := Hid.intro (M1.out.set hb HR.out rfl (.string s))
      clear hb1 M1 hne
      go_wp2_with fail
      go_roundw
      case rel => exact ⟨j + 1, by omega, by go_num, by go_num, M2⟩
      case measure => simp [intOf]; omega
    · have hje : j = xs.length := by omega
      subst hje
      go_wp2_with fail
      go_ret
      exact ⟨rfl, hM.out⟩

end Go.Proofs.YtggbhggnemlpnaaGreat
