/-
  Several texts in one: Hrk, Mkt, Mrk.
-/
import Derived.Test.YtggbhggnemlpnaaGreatJ11
import Derived.Test.YtggbhggnemlpnaaGreatHr1
import Derived.Test.YtggbhggnemlpnaaGreatShp
import Derived.Laws.IdiomStrings
namespace Go.Proofs.YtggbhggnemlpnaaGreat
open Go.RowKit

def EnK (w : World) (b o n : Nat) : Prop := (∀ t, t < n → ∃ u, w.cell? ⟨b, o + t, none⟩ = some u) ∧ ∀ p, w.frozen? ⟨b, p, none⟩ = false
theorem EnK.set {w : World} {b o n p : Nat} (h : EnK w b o n) (v : Value) : EnK (w.setCell ⟨b, p, none⟩ v) b o n := by
  refine ⟨fun t ht => ?_, fun q => by simpa using h.2 q⟩
  obtain ⟨u, hu⟩ := h.1 t ht
  by_cases e : o + t = p
  · rw [e] at hu ⊢
    exact ⟨v, World.cell?_setCell_same _ _ _ hu⟩
  · exact ⟨u, by rw [World.cell?_setCell_other _ _ _ _ (fun h => by injection h with _ h _; omega)]; exact hu⟩

/-- an answer that owns its memory, above lo -/
def AnsI (lo : Nat) (w : World) (a : Option Addr) (l : List Int) : Prop := SliceC IntC 1 lo w a l ∧ (l = [] ∨ ∃ g, a = some ⟨g, 0, none⟩ ∧ lo ≤ g ∧ g < w.heap.size ∧ EnK w g 0 l.length)

theorem AnsI.keep {lo : Nat} {w w' : World} {a : Option Addr} {l : List Int} (h : AnsI lo w a l) (hk : Keeps lo w w') : AnsI lo w' a l := by
  refine ⟨h.1.keep IntC.holds hk (Nat.le_refl _), ?_⟩
  rcases h.2 with h | ⟨g, e, hlo, hlt, hE⟩
  · exact .inl h
  · exact .inr ⟨g, e, hlo, Nat.lt_of_lt_of_le hlt hk.1, ⟨fun t ht => by obtain ⟨u, hu⟩ := hE.1 t ht; exact ⟨u, ((hk.2 g (0 + t) hlo hlt).1).trans hu⟩, fun p => ((hk.2 g p hlo hlt).2).trans (hE.2 p)⟩⟩
theorem AnsI.below {lo : Nat} {w w' : World} {a : Option Addr} {l : List Int} (h : AnsI lo w a l) (hb : Below w.heap.size w w') : AnsI lo w' a l := h.keep (Keeps.of_below hb (Nat.le_refl _) _)

/-- an answer that is marked -/
def MkI (w : World) (a : Option Addr) (l : List Int) : Prop := l = [] ∨ ∃ g, a = some ⟨g, 0, none⟩ ∧ g < w.heap.size ∧ ∀ j, j < l.length → w.cell? ⟨g, j, none⟩ = some (.int .i64 (1 + (j : Int)))
theorem MkI.below {w w' : World} {a : Option Addr} {l : List Int} (h : MkI w a l) (hb : Below w.heap.size w w') : MkI w' a l := by
  rcases h with h | ⟨g, e, hlt, hc⟩
  · exact .inl h
  · exact .inr ⟨g, e, Nat.lt_of_lt_of_le hlt hb.size, fun j hj => (hb.cell (p := ⟨g, j, none⟩) hlt).trans (hc j hj)⟩

abbrev tI (l : List Int) : Int := 1 + (l.length : Int)

set_option maxHeartbeats 4000000 in
set_option maxRecDepth 100000 in
theorem markI_any (lo : Nat) (w : World) (a : Option Addr) (l : List Int) (cap : Nat) (h : AnsI lo w a l) (hs : l.length ≤ 1048576) :
    Calls Tryz.prog 19 #[.slice a l.length cap, .int .i64 1] w fun e w' => e = .returned (.int .i64 (tI l)) ∧ MkI w' a l ∧ Below lo w w' := by
  generalize hn : l.length = n at *
  have HH := Hid.intro h
  have HNL := Hid.intro hn
  clear h hn
  go_enter Tryz.func19, Tryz.ntmps19
  go_wp2_with fail
  go_loopw [1, 5] (fun v i wr => ∃ k : Nat, k ≤ n ∧ v = .int .i64 (1 + (k : Int)) ∧ i = .int .i64 k ∧ Hid (∀ g, a = some ⟨g, 0, none⟩ → 0 < n → EnK wr g 0 n ∧ ∀ j, j < k → wr.cell? ⟨g, j, none⟩ = some (.int .i64 (1 + (j : Int)))) ∧ Below lo w wr) (fun _ i _ => n - (intOf i).toNat)
  case atStart =>
    refine ⟨0, Nat.zero_le _, by simp, rfl, fun g e h0 => ?_, Below.refl _ _⟩
    rcases HH.out.2 with h9 | ⟨g9, e9, _, _, hE⟩
    · have := HNL.out; rw [h9] at this; simp at this; omega
    · rw [e9] at e
      cases e
      rw [← HNL.out]
      exact ⟨hE, fun j hj => by omega⟩
  case round =>
    obtain ⟨k, hk, rfl, rfl, HC, hB⟩ := hrel
    by_cases hlt : k < n
    case neg =>
      have hke : k = n := by omega
      subst hke
      go_wp2_with fail
      go_ret
      refine ⟨by show Ending.returned (.int .i64 (1 + (k : Int))) = .returned (.int .i64 (1 + (l.length : Int))); rw [HNL.out], ?_, hB⟩
      rcases HH.out.2 with h9 | ⟨g9, e9, _, hlt9, _⟩
      · exact .inl h9
      · by_cases h0 : 0 < k
        · exact .inr ⟨g9, e9, Nat.lt_of_lt_of_le hlt9 hB.size, by rw [HNL.out]; exact (HC.out g9 e9 h0).2⟩
        · exact .inl (List.length_eq_zero_iff.1 (by rw [HNL.out]; omega))
    rcases HH.out.2 with h9 | ⟨g, rfl, hlg, hlt9, _⟩
    · have := HNL.out; rw [h9] at this; simp at this; omega
    have hCC := HC.out g rfl (by omega)
    obtain ⟨u, hu⟩ := hCC.1.1 k hlt
    have k0 : wr.cell? ⟨g, k, none⟩ = some u := by simpa using hu
    have f0 := hCC.1.2 k
    have HCC := Hid.intro hCC
    have hwr : IntKind.i64.wrap (1 + (k : Int) + 1) = 1 + (k : Int) + 1 := by rw [IntKind.wrap_i64]; omega
    clear hCC hu HC
    go_wp2_with fail
    go_roundw
    case rel =>
      refine ⟨k + 1, by omega, by go_num, by go_num, fun g' e _ => ?_, hB.setCell (p := ⟨g, k, none⟩) hlg _⟩
      cases e
      refine ⟨HCC.out.1.set _, fun j hj => ?_⟩
      by_cases e : j = k
      · subst e
        exact World.cell?_setCell_same' _ _ _ (by rw [k0]; rfl)
      · rw [World.cell?_setCell_other _ _ _ _ (by intro h9; injection h9 with _ h8; exact e h8.symm)]
        exact HCC.out.2 j (by omega)
    case measure => simp [intOf]; omega

set_option maxHeartbeats 4000000 in
set_option maxRecDepth 100000 in
theorem heldI_any (w : World) (a : Option Addr) (l : List Int) (cap : Nat) (h : MkI w a l) (hs : l.length ≤ 1048576) :
    Calls Tryz.prog 20 #[.slice a l.length cap, .int .i64 1] w fun e w' => e = .returned (.int .i64 (tI l)) ∧ Below w.heap.size w w' := by
  generalize hn : l.length = n at *
  have HH := Hid.intro h
  have HNL := Hid.intro hn
  clear h hn
  go_enter Tryz.func20, Tryz.ntmps20
  go_wp2_with fail
  go_loopw [1, 5] (fun v i wr => ∃ k : Nat, k ≤ n ∧ v = .int .i64 (1 + (k : Int)) ∧ i = .int .i64 k ∧ wr = w) (fun _ i _ => n - (intOf i).toNat)
  case atStart => exact ⟨0, Nat.zero_le _, by simp, rfl, rfl⟩
  case round =>
    obtain ⟨k, hk, rfl, rfl, rfl⟩ := hrel
    by_cases hlt : k < n
    case neg =>
      have hke : k = n := by omega
      subst hke
      go_wp2_with fail
      go_ret
      exact ⟨by show Ending.returned (.int .i64 (1 + (k : Int))) = .returned (.int .i64 (1 + (l.length : Int))); rw [HNL.out], Below.refl _ _⟩
    rcases HH.out with h9 | ⟨g, rfl, hlt9, hc⟩
    · have := HNL.out; rw [h9] at this; simp at this; omega
    have k0 := hc k (by rw [HNL.out]; exact hlt)
    have hwr : IntKind.i64.wrap (1 + (k : Int) + 1) = 1 + (k : Int) + 1 := by rw [IntKind.wrap_i64]; omega
    clear hc
    go_wp2_with fail
    go_roundw
    case rel => exact ⟨k + 1, by omega, by go_num, by go_num, by trivial⟩
    case measure => simp [intOf]; omega

theorem ans_of_row {base n q : Nat} {w : World} {a : Option Addr} {l : List Int} (hn : l.length = n) (h : w.ownsRow base 3 1 (.slice a n q) n (inH l)) (hm : n ≤ 1048576) : AnsI base w a l := by
  subst hn
  rcases h.2 with ⟨h1, h2⟩ | ⟨g, cap, cur, h1, hb, hg, _⟩
  · have e : l = [] := List.length_eq_zero_iff.1 h2
    subst e
    exact ⟨SliceC.nil, .inl rfl⟩
  · cases h1
    have hlt := (Array.getElem?_eq_some_iff.1 hg).1
    have hcell : ∀ j i, l[j]? = some i → w.cell? ⟨g, j, none⟩ = some (.int .i64 i) := fun j i hj => rowH_cell h hj
    have hfz : ∀ p, w.frozen? ⟨g, p, none⟩ = false := fun p => h.frozenAt p
    refine ⟨⟨by unfold maxLen; omega, .inr ⟨g, 0, rfl, ⟨hb, fun _ => hfz⟩, hlt, fun j i hj => ?_⟩⟩, .inr ⟨g, rfl, hb, hlt, fun t ht => ⟨_, by rw [Nat.zero_add]; exact hcell t _ (List.getElem?_eq_getElem ht)⟩, hfz⟩⟩
    show w.cell? ⟨g, 0 + j * 1 + 0, none⟩ = _
    simp only [Nat.mul_one, Nat.zero_add, Nat.add_zero]
    exact hcell j i hj

end Go.Proofs.YtggbhggnemlpnaaGreat

namespace Go.Proofs.YtggbhggnemlpnaaGreat
open Go.RowKit

def dgOf (j : Nat) : UInt8 := UInt8.ofNat (48 + j % 10)
def mtGo : Nat → Nat → ByteArray → ByteArray
  | 0, _, s => s
  | f + 1, j, s => if j = 0 then s else mtGo f (j / 10) (⟨#[dgOf j]⟩ ++ s)
def mtOf (k : Nat) : ByteArray := ⟨#[109]⟩ ++ mtGo 3000 k ⟨#[]⟩

theorem mtGo_end (f : Nat) (s : ByteArray) : mtGo f 0 s = s := by
  cases f with
  | zero => rfl
  | succ f => simp [mtGo]

theorem dg_nat (j : Nat) : ((dgOf j).toNat : Int) = 48 + (j : Int) % 10 := by
  have h : (dgOf j).toNat = 48 + j % 10 := by
    unfold dgOf
    rw [UInt8.toNat_ofNat']
    omega
  rw [h]
  omega

set_option maxHeartbeats 1000000 in
set_option maxRecDepth 100000 in
theorem markText_any (k : Nat) (w : World) (h0 : 0 < k) (h1 : k ≤ 1073741824) :
    Calls Tryz.prog 39 #[.int .i64 k] w fun e w' => e = .returned (.string (mtOf k)) ∧ Below w.heap.size w w' := by
  have HR : Hid (mtOf k = ⟨#[109]⟩ ++ mtGo 3000 k ⟨#[]⟩) := rfl
  generalize mtOf k = M at *
  go_enter Tryz.func39, Tryz.ntmps39
  go_wp2_with fail
  go_loopw [0, 3] (fun v o wr => ∃ (j f : Nat) (s : ByteArray), v = .int .i64 j ∧ o = .string s ∧ j ≤ 1073741824 ∧ Hid ((∃ e, j < 10 ^ e ∧ e ≤ f) ∧ s.size + f = 3000 ∧ mtGo f j s = mtGo 3000 k ⟨#[]⟩) ∧ Below w.heap.size w wr) (fun v _ _ => (intOf v).toNat)
  case atStart => exact ⟨k, 3000, _, rfl, rfl, by omega, ⟨⟨10, by omega, by omega⟩, rfl, rfl⟩, Below.refl _ _⟩
  case round =>
    obtain ⟨j, f, s, rfl, rfl, hj, HF, hbel⟩ := hrel
    by_cases hp : 0 < j
    · have hcv : (convert 117 9 (.slice (some ⟨wr.heap.size, 0, none⟩) 1 1)).run Tryz.prog (wr.alloc (Obj.cells #[.int .u8 (48 + (j : Int) % 10)] 5)) = .ok (.string ⟨#[dgOf j]⟩) (wr.alloc (Obj.cells #[.int .u8 (48 + (j : Int) % 10)] 5)) :=
        run_convert_bytes_back _ _ _ 5 ⟨wr.heap.size, 0, none⟩ 1 [dgOf j] Tryz.underlying117 Tryz.underlying5 Tryz.underlying9 (fun i hi => by
          have : i = 0 := by simpa using hi
          subst this
          rw [← dg_nat, Addr.add_mid, World.cell?_alloc_at _ _ _ _ (by rfl)]
          rfl)
      obtain ⟨g, rfl⟩ : ∃ g, f = g + 1 := by
        obtain ⟨e, he, hf⟩ := HF.out.1
        cases e with
        | zero => simp at he; omega
        | succ e => exact ⟨f - 1, by omega⟩
      have HN : Hid ((∃ e, j / 10 < 10 ^ e ∧ e ≤ g) ∧ ((⟨#[dgOf j]⟩ : ByteArray) ++ s).size + g = 3000 ∧ mtGo g (j / 10) (⟨#[dgOf j]⟩ ++ s) = mtGo 3000 k ⟨#[]⟩) := by
        obtain ⟨a, b, c⟩ := HF.out
        refine ⟨?_, ?_, ?_⟩
        · obtain ⟨e, he, hf⟩ := a
          cases e with
          | zero => simp at he; omega
          | succ e => exact ⟨e, by rw [Nat.pow_succ] at he; omega, by omega⟩
        · rw [ByteArray.size_append]
          show 1 + _ + _ = _
          omega
        · rw [← c]
          simp only [mtGo]
          rw [if_neg (by omega)]
      have hss : s.size ≤ 3000 := by have := HF.out.2.1; omega
      clear HF
      go_wp2_with fail
      go_roundw
      case rel => exact ⟨j / 10, g, _, by congr 1, rfl, by omega, HN, hbel.alloc hbel.size _⟩
      case measure => simp [intOf]; omega
    · have hj0 : j = 0 := by omega
      subst hj0
      have HS : Hid (M = ⟨#[109]⟩ ++ s) := by
        show _ = _
        rw [HR.out, ← HF.out.2.2, mtGo_end]
      have hss : s.size ≤ 3000 := by have := HF.out.2.1; omega
      clear HF
      go_wp2_with fail
      go_ret
      exact ⟨by rw [HS.out]; rfl, hbel⟩

end Go.Proofs.YtggbhggnemlpnaaGreat

namespace Go.Proofs.YtggbhggnemlpnaaGreat
open Go.RowKit

def isSl : Value → Bool
  | .slice _ _ _ => true
  | _ => false

/-- wx: the world in which the copy was just made (its memory lies from block lo on); ws: the world in which marking began; w: now. Only what lies in the copy is written, and no slice in it. -/
structure Mkd (lo : Nat) (wx ws w : World) : Prop where
  bel : Below lo ws w
  up : ∀ b o, wx.heap.size ≤ b → b < ws.heap.size → w.cell? ⟨b, o, none⟩ = ws.cell? ⟨b, o, none⟩ ∧ w.frozen? ⟨b, o, none⟩ = ws.frozen? ⟨b, o, none⟩
  sl : ∀ b o v, wx.cell? ⟨b, o, none⟩ = some v → isSl v = true → w.cell? ⟨b, o, none⟩ = some v
  so : ∀ b o v, wx.cell? ⟨b, o, none⟩ = some v → ∃ u, w.cell? ⟨b, o, none⟩ = some u
  fz : ∀ b o, b < wx.heap.size → w.frozen? ⟨b, o, none⟩ = wx.frozen? ⟨b, o, none⟩
  sz : wx.heap.size ≤ w.heap.size
  lo_ : lo ≤ wx.heap.size

theorem Mkd.start {lo : Nat} {wx ws : World} (h : Below wx.heap.size wx ws) (hl : lo ≤ wx.heap.size) : Mkd lo wx ws ws where
  bel := Below.refl _ _
  up := fun _ _ _ _ => ⟨rfl, rfl⟩
  sl := fun b o _ hv _ => (h.cell (p := ⟨b, o, none⟩) (block_lt_of_cell hv)).trans hv
  so := fun b o v hv => ⟨v, (h.cell (p := ⟨b, o, none⟩) (block_lt_of_cell hv)).trans hv⟩
  fz := fun b o hb => h.frozen (p := ⟨b, o, none⟩) hb
  sz := h.size
  lo_ := hl

theorem Mkd.below {lo : Nat} {wx ws w w' : World} (m : Mkd lo wx ws w) (h : Below w.heap.size w w') : Mkd lo wx ws w' where
  bel := m.bel.trans (h.mono (Nat.le_trans m.lo_ m.sz))
  up := fun b o h1 h2 => by
    have hb : b < w.heap.size := Nat.lt_of_lt_of_le h2 m.bel.size
    exact ⟨(h.cell (p := ⟨b, o, none⟩) hb).trans (m.up b o h1 h2).1, (h.frozen (p := ⟨b, o, none⟩) hb).trans (m.up b o h1 h2).2⟩
  sl := fun b o v hv hs => (h.cell (p := ⟨b, o, none⟩) (block_lt_of_cell (m.sl b o v hv hs))).trans (m.sl b o v hv hs)
  so := fun b o v hv => by
    obtain ⟨u, hu⟩ := m.so b o v hv
    exact ⟨u, (h.cell (p := ⟨b, o, none⟩) (block_lt_of_cell hu)).trans hu⟩
  fz := fun b o hb => (h.frozen (p := ⟨b, o, none⟩) (Nat.lt_of_lt_of_le hb m.sz)).trans (m.fz b o hb)
  sz := Nat.le_trans m.sz h.size
  lo_ := m.lo_

theorem Mkd.set {lo : Nat} {wx ws w : World} (m : Mkd lo wx ws w) {b o : Nat} {v0 : Value} (hl : lo ≤ b) (hx : wx.cell? ⟨b, o, none⟩ = some v0) (hs : isSl v0 = false) (v : Value) : Mkd lo wx ws (w.setCell ⟨b, o, none⟩ v) where
  bel := m.bel.setCell hl v
  up := fun b' o' h1 h2 => by
    have hb := block_lt_of_cell hx
    have hne : b' ≠ b := by
      have : b < wx.heap.size := hb
      omega
    refine ⟨(World.cell?_of_block (w := w) (a := ⟨b', o', none⟩) (Below.heap_setCell w ⟨b, o, none⟩ v b' hne)).trans (m.up b' o' h1 h2).1, ?_⟩
    rw [World.frozen?_setCell]
    exact (m.up b' o' h1 h2).2
  sl := fun b' o' u hu hu2 => by
    by_cases e : (⟨b, o, none⟩ : Addr) = ⟨b', o', none⟩
    · cases e
      rw [hx] at hu
      cases hu
      rw [hs] at hu2
      cases hu2
    · exact (World.cell?_setCell_other _ _ _ _ e).trans (m.sl b' o' u hu hu2)
  so := fun b' o' u hu => by
    obtain ⟨u', hu'⟩ := m.so b' o' u hu
    by_cases e : (⟨b, o, none⟩ : Addr) = ⟨b', o', none⟩
    · cases e
      exact ⟨v, World.cell?_setCell_same _ _ _ hu'⟩
    · exact ⟨u', (World.cell?_setCell_other _ _ _ _ e).trans hu'⟩
  fz := fun b' o' hb => by
    rw [World.frozen?_setCell]
    exact m.fz b' o' hb
  sz := Nat.le_trans m.sz (by simp [World.setCell])
  lo_ := m.lo_

theorem Mkd.rebase {lo : Nat} {wx ws w : World} (m : Mkd lo wx ws w) : Mkd lo wx w w where
  bel := Below.refl _ _
  up := fun _ _ _ _ => ⟨rfl, rfl⟩
  sl := m.sl
  so := m.so
  fz := m.fz
  sz := m.sz
  lo_ := m.lo_

theorem Mkd.trans {lo : Nat} {wx ws w w' : World} (m : Mkd lo wx ws w) (k : Mkd lo wx w w') : Mkd lo wx ws w' where
  bel := m.bel.trans k.bel
  up := fun b o h1 h2 => by
    have hb : b < w.heap.size := Nat.lt_of_lt_of_le h2 m.bel.size
    exact ⟨(k.up b o h1 hb).1.trans (m.up b o h1 h2).1, (k.up b o h1 hb).2.trans (m.up b o h1 h2).2⟩
  sl := k.sl
  so := k.so
  fz := k.fz
  sz := k.sz
  lo_ := k.lo_

theorem markTextZ (z : Int) (w : World) (h0 : 0 < z) (h1 : z ≤ 1073741824) :
    Calls Tryz.prog 39 #[.int .i64 z] w fun e w' => ∃ s, e = .returned (.string s) ∧ Below w.heap.size w w' := by
  obtain ⟨k, rfl⟩ : ∃ k : Nat, z = k := ⟨z.toNat, by omega⟩
  exact (markText_any k w (by omega) (by omega)).mono fun _ _ h => ⟨_, h⟩

set_option maxHeartbeats 1000000 in
set_option maxRecDepth 100000 in
theorem markStrS_any (xs : List ByteArray) (a : Option Addr) (cap lo : Nat) (z : Int) (wx ws w : World) (hin : SliceC StrC 1 lo wx a xs) (hlo : 0 < lo) (hm : Mkd lo wx ws w) (h0 : 0 < z) (h1 : z + xs.length ≤ 1073741824) :
    Calls Tryz.prog 12 #[.slice a xs.length cap, .int .i64 z] w fun e w' => e = .returned (.int .i64 (z + xs.length)) ∧ Mkd lo wx ws w' := by
  have HI := Hid.intro hin
  have HM := Hid.intro hm
  clear hin hm
  go_enter Tryz.func12, Tryz.ntmps12
  go_wp2_with fail
  go_loopw [1, 5] (fun v i wr => ∃ j : Nat, j ≤ xs.length ∧ i = .int .i64 j ∧ v = .int .i64 (z + j) ∧ Hid (Mkd lo wx ws wr)) (fun _ i _ => xs.length - (intOf i).toNat)
  case atStart => exact ⟨0, Nat.zero_le _, rfl, by simp, HM⟩
  case round =>
    clear HM
    obtain ⟨j, hj, rfl, rfl, hM⟩ := hrel
    by_cases hlt : j < xs.length
    · obtain ⟨x, hx⟩ : ∃ x, xs[j]? = some x := ⟨xs[j], List.getElem?_eq_getElem hlt⟩
      obtain ⟨b, o, rfl, hb, hbl, hc⟩ := HI.out.at hx
      obtain ⟨r0, _⟩ := hc
      simp only [Nat.mul_one, Nat.add_zero] at r0
      have HR := Hid.intro r0
      have hne : xs ≠ [] := fun e => by rw [e] at hlt; exact absurd hlt (Nat.not_lt_zero _)
      have i0 : (0 : Int) ≤ (j : Int) := by omega
      have i1 : (j : Int) < (xs.length : Int) := by omega
      clear hx r0
      go_wp2_with fail
      refine (markTextZ _ _ (by omega) (by omega)).mono ?_
      rintro e w1 ⟨s, rfl, hb1⟩
      have M1 := Hid.intro (hM.out.below hb1)
      obtain ⟨u0, c0⟩ := M1.out.so b (o + j) _ HR.out
      have f0 := (M1.out.fz b (o + j) hbl).trans (HI.out.frz hne hlo (o + j))
      have M2 := Hid.intro (M1.out.set hb HR.out rfl (.string s))
      clear hb1 M1 hne
      go_wp2_with fail
      go_roundw
      case rel => exact ⟨j + 1, by omega, by go_num, by go_num, M2⟩
      case measure => simp [intOf]; omega
    · have hje : j = xs.length := by omega
      subst hje
      go_wp2_with fail
      go_ret
      exact ⟨rfl, hM.out⟩

end Go.Proofs.YtggbhggnemlpnaaGreat
