/-
  A select and marks drawn (made by mkslf.py).
-/
import Derived.Test.YthjicahpfhjfdaaGreatDoorSlF
import Derived.Deep.RegionLaw
import Derived.Deep.RegionLawGrows
namespace Go.Proofs.YthjicahpfhjfdaaGreatDoor
open Go.RowKit

/-- marks as they lie anywhere -/
theorem marks_row {w : World} {b o : Nat} {ms : List ByteArray} (hl : ms.length ≤ 100) (hz : ∀ s ∈ ms, s.size ≤ 700) (hb : b < w.heap.size) (h : ∀ (j : Nat) (x : ByteArray), ms[j]? = some x → w.cell? ⟨b, o + j, none⟩ = some (.string x)) : SliceC StrC 1 0 w (some ⟨b, o, none⟩) ms := by
  refine ⟨by unfold maxLen; omega, ?_⟩
  cases ms with
  | nil => exact .inl rfl
  | cons y r => exact .inr ⟨b, o, rfl, ⟨Nat.zero_le _, fun h => absurd h (Nat.lt_irrefl 0)⟩, hb, fun j x hj => ⟨by show w.cell? ⟨b, o + j * 1 + 0, none⟩ = _; rw [Nat.mul_one]; exact h j x hj, by have := hz x (List.mem_of_getElem? hj); unfold maxLen; omega⟩⟩

theorem own_cells {w : World} {B b c : Nat} {e : TypeId} {ms : List ByteArray} (h : w.ownsRow B e 1 (.slice (some ⟨b, 0, none⟩) ms.length c) ms.length (ms.map Value.string)) : ∀ (j : Nat) (x : ByteArray), ms[j]? = some x → w.cell? ⟨b, 0 + j, none⟩ = some (.string x) := fun j x hj => by
  obtain ⟨cur, h1, h2, h3, h4, h5, h6⟩ := own_open h
  rw [Nat.zero_add]
  exact h1.cell (h6 j _ (by rw [List.getElem?_map, hj]; rfl))

theorem row_pos {w : World} {B n s : Nat} {e : TypeId} {v : Value} {xs : List Value} (h : w.ownsRow B e s v n xs) (hn : 0 < n) : ∃ g c, v = .slice (some ⟨g, 0, none⟩) n c := by
  rcases h.2 with ⟨_, h'⟩ | ⟨g, cap, cur, h1, _⟩
  · omega
  · exact ⟨g, cap, h1⟩

/-- a select and marks drawn by a call of its own -/
def DrQ (W w' : World) (v : Value) (am : Option Addr) (ms : List ByteArray) : Prop := ms.length ≤ 10 ∧ (∀ s ∈ ms, s.size ≤ 700) ∧ SliceC StrC 1 0 w' am ms ∧ DrP 41 W w' v

set_option maxHeartbeats 8000000 in
set_option maxRecDepth 100000 in
theorem drawMeets_any (xs : List Nat) (a : Option Addr) (cap : Nat) (w : World) (hin : ByIn a xs w) (hl : xs.length ≤ 1048576) (hc : xs.length ≤ cap) :
    Calls Tryz.prog 4 #[.slice a xs.length cap] w fun e w' => ∃ v am ms cm, e = .returned (.tuple #[.agg #[v], .slice am (List.length ms) cm]) ∧ DrQ w w' v am ms := by
  obtain ⟨iS, hiS, hs0, hs1, hs2⟩ := info_parts infoSt
  have hb0 : Below w.heap.size w (w.alloc (Obj.cells #[.slice none 0 0] 25)) := (Below.refl _ _).alloc (Nat.le_refl _) _
  have HI := Hid.intro (hin.below hb0)
  have HK : Hid (Blk w.heap.size #[.slice none 0 0] 25 (w.alloc (Obj.cells #[.slice none 0 0] 25))) := Blk.alloc _ _ _
  clear hin
  go_enter Tryz.func4, Tryz.ntmps4
  go_wp2_with fail
  generalize w.alloc (Obj.cells #[.slice none 0 0] 25) = w0 at *
  have hz0 := HK.out.lt
  refine (open_rd xs a cap _ HI.out hl hc).mono ?_
  rintro e w1 ⟨p, rfl, hr, hp, hb1⟩
  have hR : RdL p 0 w1 := ⟨0, Nat.le_refl _, hr⟩
  have HR := Hid.intro hR
  have hw01 := hb1.size
  replace HI := Hid.intro (HI.out.below hb1)
  replace HK := Hid.intro (HK.out.below hb1 hz0)
  have hbw : Below w.heap.size w w1 := hb0.trans (hb1.mono (by omega))
  have hp1 : p < w1.heap.size := HR.out.lt
  clear hr hR hb0 hb1
  go_wp2_with fail
  refine (drawPrint_any xs a cap _ HI.out hl hc).mono ?_
  rintro e w2 ⟨x, rfl, ns, ⟨g, cq, rfl, hg1, hg2, hg3⟩, hln, hsh, hb⟩
  have HS := Hid.intro hsh
  have HN : Hid (NdRow w2 w1.heap.size (.slice (some ⟨g, 0, none⟩) ns.length cq) ns) := ⟨g, cq, rfl, hg1, hg2, hg3⟩
  have hw12 := hb.size
  replace hbw := hbw.trans (hb.mono (by omega))
  replace HK := Hid.intro (HK.out.below hb (by omega))
  replace HR := Hid.intro (HR.out.below hb hp1)
  clear hg1 hg3 hsh hb HI
  have hba : Below w2.heap.size w2 (w2.alloc (Obj.cells #[.slice (some ⟨g, 0, none⟩) ns.length cq] 25)) := (Below.refl _ _).alloc (Nat.le_refl _) _
  have HX : Hid (Blk w2.heap.size #[.slice (some ⟨g, 0, none⟩) ns.length cq] 25 (w2.alloc (Obj.cells #[.slice (some ⟨g, 0, none⟩) ns.length cq] 25))) := Blk.alloc _ _ _
  replace HN := Hid.intro (HN.out.up hba)
  replace HK := Hid.intro (HK.out.below hba (by omega))
  replace HR := Hid.intro (HR.out.below hba HR.out.lt)
  replace hbw := hbw.trans (hba.mono (by omega))
  clear hba
  go_wp2_with fail
  generalize w2.alloc (Obj.cells #[.slice (some ⟨g, 0, none⟩) ns.length cq] 25) = w3 at *
  have hx3 : w2.heap.size < w3.heap.size := HX.out.lt
  generalize w2.heap.size = zx at *
  have hpl : p < w3.heap.size := by omega
  refine (marks_any p 0 _ HR.out (by omega)).mono ?_
  rintro e wn ⟨ms, b, c2, rfl, hM⟩
  have HM := Hid.intro hM
  clear hM HR
  obtain ⟨n, hn⟩ : ∃ n : Nat, n = 6 := ⟨_, rfl⟩
  replace HM := Hid.intro (HM.out.more (show 0 + 6 ≤ n by omega) (Nat.le_refl _))
  generalize c2 = c3 at *
  have hba : Below wn.heap.size wn (wn.alloc (Obj.cells #[.string ⟨#[101, 97, 115, 116]⟩, .string ⟨#[119, 101, 115, 116]⟩] 9)) := (Below.refl _ _).alloc (Nat.le_refl _) _
  have HT : Hid (Blk wn.heap.size #[.string ⟨#[101, 97, 115, 116]⟩, .string ⟨#[119, 101, 115, 116]⟩] 9 (wn.alloc (Obj.cells #[.string ⟨#[101, 97, 115, 116]⟩, .string ⟨#[119, 101, 115, 116]⟩] 9))) := Blk.alloc _ _ _
  have hgt : w3.heap.size ≤ wn.heap.size := HM.out.sz
  replace HM := Hid.intro (HM.out.below hba)
  clear hba
  go_wp2_with fail
  generalize wn.alloc (Obj.cells #[.string ⟨#[101, 97, 115, 116]⟩, .string ⟨#[119, 101, 115, 116]⟩] 9) = wt at *
  generalize wn.heap.size = gt at *
  refine (pickL p (n + 0) 2 _ HM.out.R (by omega) (by omega) (by omega)).mono ?_
  rintro e wn ⟨u, rfl, hu, hr, hb⟩
  replace HT := Hid.intro (HT.out.bt hb HT.out.lt (by omega))
  replace HM := Hid.intro (HM.out.bt hb hr)
  clear hr hb
  obtain ⟨s, hs, hz⟩ := tabS [⟨#[101, 97, 115, 116]⟩, ⟨#[119, 101, 115, 116]⟩] u (by simp; omega) (by decide)
  have c0 : wn.cell? ⟨gt, u, none⟩ = some (.string s) := HT.out.cell hs
  have i0 : (0 : Int) ≤ (u : Int) := by omega
  have hgl : gt < wn.heap.size := HT.out.lt
  clear hs
  have hba : Below wn.heap.size wn (wn.alloc (Obj.cells #[.string ((⟨#[122, 111, 110, 101, 61]⟩ : ByteArray) ++ s)] 9)) := (Below.refl _ _).alloc (Nat.le_refl _) _
  replace HM := Hid.intro (HM.out.below hba)
  have hszA := HM.out.sz
  have hL := HM.out.L
  clear hba
  go_wp2_with (at_builtin; refine wpList_append_own_at _ rfl (.tmp 12) (.tmp 19) 26 rfl w3.heap.size 9 iS _ 1 16 Tryz.underlying26 hiS hs0 hs1 hs2 rfl (by decide) _ ms.length _ rfl HM.out.O ⟨wn.heap.size, 0, none⟩ 1 1 [.string ((⟨#[122, 111, 110, 101, 61]⟩ : ByteArray) ++ s)] rfl rfl (news_str _ _ _) (oneSt _) (by unfold maxLen; omega) (by omega) hszA ?_; intro v' wn hown hgrow hnil _; have hv : v' ≠ .slice none 0 0 := (fun e => by have h9 := (hnil.1 e).1; cases h9); obtain ⟨b, c, rfl⟩ := own_slice hown hv; replace HM := Hid.intro (HM.out.app (s := ((⟨#[122, 111, 110, 101, 61]⟩ : ByteArray) ++ s)) (by rw [ByteArray.size_append]; have : (⟨#[122, 111, 110, 101, 61]⟩ : ByteArray).size = 5 := rfl; omega) hown hgrow rfl); clear hown hgrow hnil hv hszA hL)
  have hlx : (ms ++ [((⟨#[122, 111, 110, 101, 61]⟩ : ByteArray) ++ s)]).length = ms.length + 1 := by simp
  rw [← hlx]
  have hl1 : 1 ≤ (ms ++ [((⟨#[122, 111, 110, 101, 61]⟩ : ByteArray) ++ s)]).length := by omega
  clear hlx
  generalize ms ++ [((⟨#[122, 111, 110, 101, 61]⟩ : ByteArray) ++ s)] = ms at *
  clear HT c0 i0 hgl hgt hu hz
  refine (pickL p (n + 1) 8 _ HM.out.R (by omega) (by omega) (by omega)).mono ?_
  rintro e wn ⟨v, rfl, hv, hr, hb⟩
  replace HM := Hid.intro (HM.out.bt hb hr)
  clear hr hb
  have hzp : w.heap.size ≠ p := by omega
  have hxp : zx ≠ p := by omega
  rcases (by omega : v = 0 ∨ v = 1 ∨ 2 ≤ v) with rfl | rfl | hv2
  · skip
    have hba : Below wn.heap.size wn (wn.alloc (Obj.cells #[.string ⟨#[]⟩, .string ⟨#[65]⟩, .string ⟨#[97, 61]⟩, .string ⟨#[61, 97]⟩, .string ⟨#[122, 111, 110, 101, 61, 114, 101, 100]⟩] 9)) := (Below.refl _ _).alloc (Nat.le_refl _) _
    have HT : Hid (Blk wn.heap.size #[.string ⟨#[]⟩, .string ⟨#[65]⟩, .string ⟨#[97, 61]⟩, .string ⟨#[61, 97]⟩, .string ⟨#[122, 111, 110, 101, 61, 114, 101, 100]⟩] 9 (wn.alloc (Obj.cells #[.string ⟨#[]⟩, .string ⟨#[65]⟩, .string ⟨#[97, 61]⟩, .string ⟨#[61, 97]⟩, .string ⟨#[122, 111, 110, 101, 61, 114, 101, 100]⟩] 9))) := Blk.alloc _ _ _
    have hgt : w3.heap.size ≤ wn.heap.size := HM.out.sz
    replace HM := Hid.intro (HM.out.below hba)
    clear hba
    go_wp2_with fail
    generalize wn.alloc (Obj.cells #[.string ⟨#[]⟩, .string ⟨#[65]⟩, .string ⟨#[97, 61]⟩, .string ⟨#[61, 97]⟩, .string ⟨#[122, 111, 110, 101, 61, 114, 101, 100]⟩] 9) = wt at *
    generalize wn.heap.size = gt at *
    refine (pickL p (n + 2) 5 _ HM.out.R (by omega) (by omega) (by omega)).mono ?_
    rintro e wn ⟨u, rfl, hu, hr, hb⟩
    replace HT := Hid.intro (HT.out.bt hb HT.out.lt (by omega))
    replace HM := Hid.intro (HM.out.bt hb hr)
    clear hr hb
    obtain ⟨s, hs, hz⟩ := tabS [⟨#[]⟩, ⟨#[65]⟩, ⟨#[97, 61]⟩, ⟨#[61, 97]⟩, ⟨#[122, 111, 110, 101, 61, 114, 101, 100]⟩] u (by simp; omega) (by decide)
    have c0 : wn.cell? ⟨gt, u, none⟩ = some (.string s) := HT.out.cell hs
    have i0 : (0 : Int) ≤ (u : Int) := by omega
    have hgl : gt < wn.heap.size := HT.out.lt
    clear hs
    have hba : Below wn.heap.size wn (wn.alloc (Obj.cells #[.string s] 9)) := (Below.refl _ _).alloc (Nat.le_refl _) _
    replace HM := Hid.intro (HM.out.below hba)
    have hszA := HM.out.sz
    have hL := HM.out.L
    clear hba
    go_upto_region 9 with (at_builtin; refine wpList_append_own_at _ rfl (.tmp 25) (.tmp 31) 26 rfl w3.heap.size 9 iS _ 1 16 Tryz.underlying26 hiS hs0 hs1 hs2 rfl (by decide) _ ms.length _ rfl HM.out.O ⟨wn.heap.size, 0, none⟩ 1 1 [.string s] rfl rfl (news_str _ _ _) (oneSt _) (by unfold maxLen; omega) (by omega) hszA ?_; intro v' wn hown hgrow hnil _; have hv : v' ≠ .slice none 0 0 := (fun e => by have h9 := (hnil.1 e).1; cases h9); obtain ⟨b, c, rfl⟩ := own_slice hown hv; replace HM := Hid.intro (HM.out.app (s := s) (by omega) hown hgrow rfl); clear hown hgrow hnil hv hszA hL)
    have hlx : (ms ++ [s]).length = ms.length + 1 := by simp
    rw [← hlx]
    skip
    clear hlx
    generalize ms ++ [s] = ms at *
    clear HT c0 i0 hgl hgt hu hz
    have hT := HM.out.T
    have hm := own_cells HM.out.O
    have hml : ms.length ≤ 10 := by have := HM.out.L; omega
    have hms := HM.out.S
    have hmb := HM.out.blk.2
    have hmz : w.heap.size < b := by have := HM.out.blk.1; omega
    have HKf := HK.out.bt hT HK.out.lt hzp
    have HXf := HX.out.bt hT hx3 hxp
    have HNf := HN.out.bt hT (Nat.le_refl _) hp1
    have hbf : Below w.heap.size w wn := hbw.trans (hT.below (by omega) (by omega))
    have cc : (wn.setCell ⟨w.heap.size, 0, none⟩ (.slice (some ⟨g, 0, none⟩) ns.length cq)).cell? ⟨w.heap.size, 0, none⟩ = some (.slice (some ⟨g, 0, none⟩) ns.length cq) := (HKf.set 0 (.slice (some ⟨g, 0, none⟩) ns.length cq)).cell rfl
    have cf := HKf.frozen 0
    have c9 : wn.cell? ⟨w.heap.size, 0, none⟩ = some (.slice none 0 0) := HKf.cell rfl
    have cx : wn.cell? ⟨zx, 0, none⟩ = some (.slice (some ⟨g, 0, none⟩) ns.length cq) := HXf.cell rfl
    have hbs : Below w.heap.size w (wn.setCell ⟨w.heap.size, 0, none⟩ (.slice (some ⟨g, 0, none⟩) ns.length cq)) := hbf.trans ((Below.refl _ _).setCell (show w.heap.size ≤ (⟨w.heap.size, 0, none⟩ : Addr).block from Nat.le_refl _) _)
    have HF : Hid (DrQ w (wn.setCell ⟨w.heap.size, 0, none⟩ (.slice (some ⟨g, 0, none⟩) ns.length cq)) (.slice (some ⟨g, 0, none⟩) ns.length cq) (some ⟨b, 0, none⟩) ms) := ⟨hml, hms, marks_row (by omega) hms (by simpa [World.setCell] using hmb) (fun j x hj => (World.cell?_setCell_other _ _ _ _ (fun h => by injection h with h _ _; omega)).trans (hm j x hj)), ns, (HNf.set (by omega) 0 _).mono (by omega), hln, HS.out, hbs⟩
    clear hbs hbf HKf HXf HNf hT hm
    go_wp2_with fail
    refine bodyPost_ret (v := .tuple #[.agg #[.slice (some ⟨g, 0, none⟩) ns.length cq], .slice (some ⟨b, 0, none⟩) ms.length c]) (by rw [results_cell_tmp rfl]; simp [go_sem, cc]) rfl ⟨_, (some ⟨b, 0, none⟩), ms, c, rfl, HF.out⟩
  · obtain ⟨m0, rest, hms0⟩ : ∃ (m0 : ByteArray) (rest : List ByteArray), ms = m0 :: rest := by
      cases ms with
      | nil => simp at hl1
      | cons x y => exact ⟨x, y, rfl⟩
    have hlen : ms.length = rest.length + 1 := by rw [hms0]; rfl
    obtain ⟨cur, k1, k2, k3, k4, k5, k6⟩ := own_open HM.out.O
    have hcl := own_cells HM.out.O
    have hc0 : wn.cell? ⟨b, 0, none⟩ = some (.string m0) := hcl 0 m0 (by rw [hms0]; rfl)
    have hcr : ∀ (j : Nat) (x : ByteArray), rest[j]? = some x → wn.cell? ⟨b, 1 + j, none⟩ = some (.string x) := fun j x hj => by
      have := hcl (j + 1) x (by rw [hms0]; exact hj)
      rw [show 1 + j = 0 + (j + 1) by omega]; exact this
    have hms : ∀ s ∈ rest ++ [m0], s.size ≤ 700 := fun s hs => HM.out.S s (by rw [hms0]; exact (List.mem_append.1 hs).elim (fun h => List.mem_cons_of_mem _ h) (fun h => by rw [List.mem_singleton.1 h]; exact List.mem_cons_self))
    have hml : (rest ++ [m0]).length ≤ 10 := by have := HM.out.L; simp; omega
    have hrl : rest.length ≤ 9 := by simp at hml; omega
    have HT0 := Hid.intro HM.out.T
    have HKB := Hid.intro k1
    have HC0 := Hid.intro hc0
    have HCR := Hid.intro hcr
    have hbb := HM.out.blk
    have hcs : cur.size = c := by omega
    clear hcl hc0 hcr k1 k4 k5 k6 HM hms0
    rw [hlen] at k3
    rw [hlen]
    clear hlen hl1
    skip
    rcases (by omega : c = 1 ∨ (c = rest.length + 1 ∧ 1 < c) ∨ rest.length + 1 < c) with hc1 | hc1 | hc1
    · have hr0 : rest = [] := List.eq_nil_of_length_eq_zero (by omega)
      subst hr0 hc1
      have hi1 : (1 : Int) ≤ 0 + 1 := by omega
      go_upto_region 8 with fail
      refine wp_region_held_drew (S := fun wy => wy.cell? ⟨b, 0, none⟩ = some (.string m0)) (by kernel_rfl) HC0.out (fun hS => ?_)
      replace HT0 := Hid.intro HT0.out.drew
      replace HKB := Hid.intro HKB.out.drew
      skip
      replace HC0 : Hid (wn.drew.cell? ⟨b, 0, none⟩ = some (.string m0)) := HC0.out
      replace hbb : w3.heap.size ≤ b ∧ b < wn.drew.heap.size := hbb
      generalize wn.drew = wn at *
      refine wpAnyH_take (i := 0) (oi := { dst := some 35, op := _, type := _, pos := _, after := _, guard := none }) (v := .slice (some ⟨b, 0, none⟩) 1 1) rfl (by kernel_rfl) (by kernel_rfl) (by kernel_rfl) (fun _ _ _ h => h) (Or.inl ⟨by rfl, ?_⟩) hS ?_
      · intro wy hy
        clear hy
        go_simp
      simp only [Act.put, List.setIfInBounds_toArray, List.set_cons_zero, List.set_cons_succ]
      refine wpAnyH_take (i := 1) (oi := { dst := some 36, op := _, type := _, pos := _, after := _, guard := none }) (v := .slice (some ⟨b, 0, none⟩) 0 0) rfl (by kernel_rfl) (by kernel_rfl) (by kernel_rfl) (fun _ _ _ h => h) (Or.inl ⟨by rfl, ?_⟩) hS ?_
      · intro wy hy
        clear hy
        go_simp
      simp only [Act.put, List.setIfInBounds_toArray, List.set_cons_zero, List.set_cons_succ]
      refine wpAnyH_take (i := 2) (oi := { dst := some 37, op := _, type := _, pos := _, after := _, guard := none }) (v := .slice (some ⟨b, 0, none⟩) 1 1) rfl (by kernel_rfl) (by kernel_rfl) (by kernel_rfl) (fun _ _ _ h => h) (Or.inl ⟨by rfl, ?_⟩) hS ?_
      · intro wy hy
        clear hy
        go_simp
      simp only [Act.put, List.setIfInBounds_toArray, List.set_cons_zero, List.set_cons_succ]
      refine wpAnyH_take (i := 3) (oi := { dst := some 38, op := _, type := _, pos := _, after := _, guard := none }) (v := .pointer (some ⟨b, 0, none⟩)) rfl (by kernel_rfl) (by kernel_rfl) (by kernel_rfl) (fun _ _ _ h => h) (Or.inl ⟨by rfl, ?_⟩) hS ?_
      · intro wy hy
        clear hy
        first | (go_simp; done) | (go_simp; omega) | (go_simp; intro hh; omega)
      simp only [Act.put, List.setIfInBounds_toArray, List.set_cons_zero, List.set_cons_succ]
      refine wpAnyH_take (i := 4) (oi := { dst := some 39, op := _, type := _, pos := _, after := _, guard := none }) (v := .string m0) rfl (by kernel_rfl) (by kernel_rfl) (by kernel_rfl) (fun _ _ _ h => h) (Or.inl ⟨by rfl, ?_⟩) hS ?_
      · intro wy hy
        have h0 := id hy
        clear hy
        go_simp
      simp only [Act.put, List.setIfInBounds_toArray, List.set_cons_zero, List.set_cons_succ]
      refine wpAnyH_ready (rs := [5]) (by kernel_rfl) (by simp) (AllReadyH.cons (o := { dst := some 40, op := _, type := _, pos := _, after := _, guard := none }) rfl (fun KK hKK => ?_) AllReadyH.nil)
      go_simp
      have hba : Below wn.heap.size wn (wn.alloc (Obj.cells #[.string m0] 9)) := (Below.refl _ _).alloc (Nat.le_refl _) _
      have HNW := Hid.intro (news_str wn m0 9)
      have HTA : Hid (Bt p w3.heap.size w3 (wn.alloc (Obj.cells #[.string m0] 9))) := HT0.out.trans ((Bt.of_below hba).mono HT0.out.size)
      have HCA : Hid ((wn.alloc (Obj.cells #[.string m0] 9)).cell? ⟨b, 0, none⟩ = some (.string m0)) := (hba.cell (p := ⟨b, 0, none⟩) hbb.2).trans HC0.out
      have HRA : Hid True := trivial
      have HBA := Hid.intro (HKB.out.below hba hbb.2)
      have hsa : wn.heap.size ≤ (wn.alloc (Obj.cells #[.string m0] 9)).heap.size := hba.size
      refine hKK.out _ _ HCA.out (fun hS => ?_)
      clear hKK KK hba HT0 HCR HC0 HKB
      generalize hwa : wn.heap.size = ga at *
      generalize wn.alloc (Obj.cells #[.string m0] 9) = wa at *
      clear hwa
      refine wpAnyH_ready (rs := [6]) (by kernel_rfl) (by simp) (AllReadyH.cons (o := { dst := some 41, op := _, type := _, pos := _, after := _, guard := none }) rfl (fun KK hKK => ?_) AllReadyH.nil)
      refine step_append_grows rfl (.tmp 36) (.tmp 40) 26 rfl 9 iS _ 1 16 Tryz.underlying26 hiS hs0 hs1 hs2 rfl (by decide) (some ⟨b, 0, none⟩) 0 0 [] (by first | rfl | simp [Act.eval]) (fun h => by cases h) (by simp) (fun b0 hb0 j u hj => by cases hj) ⟨ga, 0, none⟩ 1 1 [.string m0] (by first | rfl | simp [Act.eval]) rfl HNW.out (oneSt _) (by omega) (by unfold maxLen; omega) (by omega) ?_
      intro v' wf hown hgrow
      obtain ⟨gf, cf2, rfl⟩ := row_pos hown (by omega)
      have hbf0 : Below wa.heap.size wa wf := (Below.refl _ wa).grown hgrow (Nat.le_refl _) (fun i hi => by cases hi)
      have hgf := hown.lt gf rfl
      have hm : ∀ (j : Nat) (x : ByteArray), ([] ++ [m0] : List ByteArray)[j]? = some x → wf.cell? ⟨gf, 0 + j, none⟩ = some (.string x) := fun j x hj => by
        obtain ⟨cu, q1, q2, q3, q4, q5, q6⟩ := own_open hown
        rw [Nat.zero_add]
        refine q1.cell (q6 j _ ?_)
        have : ([] : List ByteArray) ++ [m0] = [m0] := rfl
        rw [this] at hj
        rw [show ([] ++ [Value.string m0]) = [m0].map Value.string from rfl, List.getElem?_map, hj]
        rfl
      have hT : Bt p w3.heap.size w3 wf := HTA.out.trans ((Bt.of_below hbf0).mono HTA.out.size)
      have hmb : gf < wf.heap.size := hgf.2
      have hmz : w.heap.size < gf := by have := HTA.out.size; omega
      have hS2 : wf.cell? ⟨b, 0, none⟩ = some (.string m0) := (hbf0.cell (p := ⟨b, 0, none⟩) HBA.out.lt).trans HCA.out
      clear hbf0 hown hgrow hgf HTA HCA HRA HBA HNW
      refine hKK.out _ _ hS2 (fun hS => ?_)
      clear hKK KK hS2
      refine wpAnyH_take (i := 7) (oi := { dst := some 6, op := _, type := _, pos := _, after := _, guard := none }) (v := .slice (some ⟨gf, 0, none⟩) (0 + 1) cf2) rfl (by kernel_rfl) (by kernel_rfl) (by kernel_rfl) (fun _ _ _ h => h) (Or.inl ⟨by rfl, ?_⟩) hS ?_
      · intro wy hy
        clear hy
        go_simp
      simp only [Act.put, List.setIfInBounds_toArray, List.set_cons_zero, List.set_cons_succ]
      refine wpAnyH_done (by kernel_rfl) ?_ _
      clear hS
      generalize wf = wn at *
      have HKf := HK.out.bt hT HK.out.lt hzp
      have HXf := HX.out.bt hT hx3 hxp
      have HNf := HN.out.bt hT (Nat.le_refl _) hp1
      have hbf : Below w.heap.size w wn := hbw.trans (hT.below (by omega) (by omega))
      have cc : (wn.setCell ⟨w.heap.size, 0, none⟩ (.slice (some ⟨g, 0, none⟩) ns.length cq)).cell? ⟨w.heap.size, 0, none⟩ = some (.slice (some ⟨g, 0, none⟩) ns.length cq) := (HKf.set 0 (.slice (some ⟨g, 0, none⟩) ns.length cq)).cell rfl
      have cf := HKf.frozen 0
      have c9 : wn.cell? ⟨w.heap.size, 0, none⟩ = some (.slice none 0 0) := HKf.cell rfl
      have cx : wn.cell? ⟨zx, 0, none⟩ = some (.slice (some ⟨g, 0, none⟩) ns.length cq) := HXf.cell rfl
      have hbs : Below w.heap.size w (wn.setCell ⟨w.heap.size, 0, none⟩ (.slice (some ⟨g, 0, none⟩) ns.length cq)) := hbf.trans ((Below.refl _ _).setCell (show w.heap.size ≤ (⟨w.heap.size, 0, none⟩ : Addr).block from Nat.le_refl _) _)
      have HF : Hid (DrQ w (wn.setCell ⟨w.heap.size, 0, none⟩ (.slice (some ⟨g, 0, none⟩) ns.length cq)) (.slice (some ⟨g, 0, none⟩) ns.length cq) (some ⟨gf, 0, none⟩) ([] ++ [m0])) := ⟨hml, hms, marks_row (by omega) hms (by simpa [World.setCell] using hmb) (fun j x hj => (World.cell?_setCell_other _ _ _ _ (fun h => by injection h with h _ _; omega)).trans (hm j x hj)), ns, (HNf.set (by omega) 0 _).mono (by omega), hln, HS.out, hbs⟩
      clear hbs hbf HKf HXf HNf hT hm
      go_wp2_with fail
      refine bodyPost_ret (v := .tuple #[.agg #[.slice (some ⟨g, 0, none⟩) ns.length cq], .slice (some ⟨gf, 0, none⟩) (0 + 1) cf2]) (by rw [results_cell_tmp rfl]; simp [go_sem, cc]) rfl ⟨_, (some ⟨gf, 0, none⟩), ([] ++ [m0]), cf2, rfl, HF.out⟩
    · obtain ⟨rfl, hc2⟩ := hc1
      have hre : ¬ rest = [] := fun e => by rw [e] at hc2; simp at hc2
      have hi1 : (1 : Int) ≤ (rest.length : Int) + 1 := by omega
      go_upto_region 8 with fail
      refine wp_region_held_drew (S := fun wy => wy.cell? ⟨b, 0, none⟩ = some (.string m0)) (by kernel_rfl) HC0.out (fun hS => ?_)
      replace HT0 := Hid.intro HT0.out.drew
      replace HKB := Hid.intro HKB.out.drew
      replace HCR : Hid (∀ (j : Nat) (x : ByteArray), rest[j]? = some x → wn.drew.cell? ⟨b, 1 + j, none⟩ = some (.string x)) := HCR.out
      replace HC0 : Hid (wn.drew.cell? ⟨b, 0, none⟩ = some (.string m0)) := HC0.out
      replace hbb : w3.heap.size ≤ b ∧ b < wn.drew.heap.size := hbb
      generalize wn.drew = wn at *
      refine wpAnyH_take (i := 0) (oi := { dst := some 35, op := _, type := _, pos := _, after := _, guard := none }) (v := .slice (some ⟨b, 0, none⟩) (rest.length + 1) (rest.length + 1)) rfl (by kernel_rfl) (by kernel_rfl) (by kernel_rfl) (fun _ _ _ h => h) (Or.inl ⟨by rfl, ?_⟩) hS ?_
      · intro wy hy
        clear hy
        go_simp
      simp only [Act.put, List.setIfInBounds_toArray, List.set_cons_zero, List.set_cons_succ]
      refine wpAnyH_take (i := 1) (oi := { dst := some 36, op := _, type := _, pos := _, after := _, guard := none }) (v := .slice (some ⟨b, 1, none⟩) rest.length rest.length) rfl (by kernel_rfl) (by kernel_rfl) (by kernel_rfl) (fun _ _ _ h => h) (Or.inl ⟨by rfl, ?_⟩) hS ?_
      · intro wy hy
        clear hy
        go_simp
      simp only [Act.put, List.setIfInBounds_toArray, List.set_cons_zero, List.set_cons_succ]
      refine wpAnyH_take (i := 2) (oi := { dst := some 37, op := _, type := _, pos := _, after := _, guard := none }) (v := .slice (some ⟨b, 0, none⟩) (rest.length + 1) (rest.length + 1)) rfl (by kernel_rfl) (by kernel_rfl) (by kernel_rfl) (fun _ _ _ h => h) (Or.inl ⟨by rfl, ?_⟩) hS ?_
      · intro wy hy
        clear hy
        go_simp
      simp only [Act.put, List.setIfInBounds_toArray, List.set_cons_zero, List.set_cons_succ]
      refine wpAnyH_take (i := 3) (oi := { dst := some 38, op := _, type := _, pos := _, after := _, guard := none }) (v := .pointer (some ⟨b, 0, none⟩)) rfl (by kernel_rfl) (by kernel_rfl) (by kernel_rfl) (fun _ _ _ h => h) (Or.inl ⟨by rfl, ?_⟩) hS ?_
      · intro wy hy
        clear hy
        first | (go_simp; done) | (go_simp; omega) | (go_simp; intro hh; omega)
      simp only [Act.put, List.setIfInBounds_toArray, List.set_cons_zero, List.set_cons_succ]
      refine wpAnyH_take (i := 4) (oi := { dst := some 39, op := _, type := _, pos := _, after := _, guard := none }) (v := .string m0) rfl (by kernel_rfl) (by kernel_rfl) (by kernel_rfl) (fun _ _ _ h => h) (Or.inl ⟨by rfl, ?_⟩) hS ?_
      · intro wy hy
        have h0 := id hy
        clear hy
        go_simp
      simp only [Act.put, List.setIfInBounds_toArray, List.set_cons_zero, List.set_cons_succ]
      refine wpAnyH_ready (rs := [5]) (by kernel_rfl) (by simp) (AllReadyH.cons (o := { dst := some 40, op := _, type := _, pos := _, after := _, guard := none }) rfl (fun KK hKK => ?_) AllReadyH.nil)
      go_simp
      have hba : Below wn.heap.size wn (wn.alloc (Obj.cells #[.string m0] 9)) := (Below.refl _ _).alloc (Nat.le_refl _) _
      have HNW := Hid.intro (news_str wn m0 9)
      have HTA : Hid (Bt p w3.heap.size w3 (wn.alloc (Obj.cells #[.string m0] 9))) := HT0.out.trans ((Bt.of_below hba).mono HT0.out.size)
      have HCA : Hid ((wn.alloc (Obj.cells #[.string m0] 9)).cell? ⟨b, 0, none⟩ = some (.string m0)) := (hba.cell (p := ⟨b, 0, none⟩) hbb.2).trans HC0.out
      have HRA : Hid (∀ (j : Nat) (x : ByteArray), rest[j]? = some x → (wn.alloc (Obj.cells #[.string m0] 9)).cell? ⟨b, 1 + j, none⟩ = some (.string x)) := fun j x hj => (hba.cell (p := ⟨b, 1 + j, none⟩) hbb.2).trans (HCR.out j x hj)
      have HBA := Hid.intro (HKB.out.below hba hbb.2)
      have hsa : wn.heap.size ≤ (wn.alloc (Obj.cells #[.string m0] 9)).heap.size := hba.size
      refine hKK.out _ _ HCA.out (fun hS => ?_)
      clear hKK KK hba HT0 HCR HC0 HKB
      generalize hwa : wn.heap.size = ga at *
      generalize wn.alloc (Obj.cells #[.string m0] 9) = wa at *
      clear hwa
      refine wpAnyH_ready (rs := [6]) (by kernel_rfl) (by simp) (AllReadyH.cons (o := { dst := some 41, op := _, type := _, pos := _, after := _, guard := none }) rfl (fun KK hKK => ?_) AllReadyH.nil)
      refine step_append_grows rfl (.tmp 36) (.tmp 40) 26 rfl 9 iS _ 1 16 Tryz.underlying26 hiS hs0 hs1 hs2 rfl (by decide) (some ⟨b, 1, none⟩) rest.length rest.length (rest.map Value.string) (by first | rfl | simp [Act.eval]) (fun h => by cases h) (by simp) (fun b0 hb0 j u hj => by injection hb0 with hb0; subst hb0; rw [List.getElem?_map] at hj; cases hx : rest[j]? with | none => rw [hx] at hj; cases hj | some x => rw [hx] at hj; cases hj; rw [Addr.add_mid]; exact HRA.out j x hx) ⟨ga, 0, none⟩ 1 1 [.string m0] (by first | rfl | simp [Act.eval]) rfl HNW.out (oneSt _) (by omega) (by unfold maxLen; omega) (by omega) ?_
      intro v' wf hown hgrow
      obtain ⟨gf, cf2, rfl⟩ := row_pos hown (by omega)
      have hbf0 : Below wa.heap.size wa wf := (Below.refl _ wa).grown hgrow (Nat.le_refl _) (fun i hi => by cases hi)
      have hgf := hown.lt gf rfl
      have hm : ∀ (j : Nat) (x : ByteArray), (rest ++ [m0])[j]? = some x → wf.cell? ⟨gf, 0 + j, none⟩ = some (.string x) := fun j x hj => by
        obtain ⟨cu, q1, q2, q3, q4, q5, q6⟩ := own_open hown
        rw [Nat.zero_add]
        refine q1.cell (q6 j _ ?_)
        skip
        skip
        rw [show rest.map Value.string ++ [Value.string m0] = (rest ++ [m0]).map Value.string by simp, List.getElem?_map, hj]
        rfl
      have hT : Bt p w3.heap.size w3 wf := HTA.out.trans ((Bt.of_below hbf0).mono HTA.out.size)
      have hmb : gf < wf.heap.size := hgf.2
      have hmz : w.heap.size < gf := by have := HTA.out.size; omega
      have hS2 : wf.cell? ⟨b, 0, none⟩ = some (.string m0) := (hbf0.cell (p := ⟨b, 0, none⟩) HBA.out.lt).trans HCA.out
      clear hbf0 hown hgrow hgf HTA HCA HRA HBA HNW
      refine hKK.out _ _ hS2 (fun hS => ?_)
      clear hKK KK hS2
      refine wpAnyH_take (i := 7) (oi := { dst := some 6, op := _, type := _, pos := _, after := _, guard := none }) (v := .slice (some ⟨gf, 0, none⟩) (rest.length + 1) cf2) rfl (by kernel_rfl) (by kernel_rfl) (by kernel_rfl) (fun _ _ _ h => h) (Or.inl ⟨by rfl, ?_⟩) hS ?_
      · intro wy hy
        clear hy
        go_simp
      simp only [Act.put, List.setIfInBounds_toArray, List.set_cons_zero, List.set_cons_succ]
      refine wpAnyH_done (by kernel_rfl) ?_ _
      clear hS
      generalize wf = wn at *
      have HKf := HK.out.bt hT HK.out.lt hzp
      have HXf := HX.out.bt hT hx3 hxp
      have HNf := HN.out.bt hT (Nat.le_refl _) hp1
      have hbf : Below w.heap.size w wn := hbw.trans (hT.below (by omega) (by omega))
      have cc : (wn.setCell ⟨w.heap.size, 0, none⟩ (.slice (some ⟨g, 0, none⟩) ns.length cq)).cell? ⟨w.heap.size, 0, none⟩ = some (.slice (some ⟨g, 0, none⟩) ns.length cq) := (HKf.set 0 (.slice (some ⟨g, 0, none⟩) ns.length cq)).cell rfl
      have cf := HKf.frozen 0
      have c9 : wn.cell? ⟨w.heap.size, 0, none⟩ = some (.slice none 0 0) := HKf.cell rfl
      have cx : wn.cell? ⟨zx, 0, none⟩ = some (.slice (some ⟨g, 0, none⟩) ns.length cq) := HXf.cell rfl
      have hbs : Below w.heap.size w (wn.setCell ⟨w.heap.size, 0, none⟩ (.slice (some ⟨g, 0, none⟩) ns.length cq)) := hbf.trans ((Below.refl _ _).setCell (show w.heap.size ≤ (⟨w.heap.size, 0, none⟩ : Addr).block from Nat.le_refl _) _)
      have HF : Hid (DrQ w (wn.setCell ⟨w.heap.size, 0, none⟩ (.slice (some ⟨g, 0, none⟩) ns.length cq)) (.slice (some ⟨g, 0, none⟩) ns.length cq) (some ⟨gf, 0, none⟩) (rest ++ [m0])) := ⟨hml, hms, marks_row (by omega) hms (by simpa [World.setCell] using hmb) (fun j x hj => (World.cell?_setCell_other _ _ _ _ (fun h => by injection h with h _ _; omega)).trans (hm j x hj)), ns, (HNf.set (by omega) 0 _).mono (by omega), hln, HS.out, hbs⟩
      clear hbs hbf HKf HXf HNf hT hm
      go_wp2_with fail
      refine bodyPost_ret (v := .tuple #[.agg #[.slice (some ⟨g, 0, none⟩) ns.length cq], .slice (some ⟨gf, 0, none⟩) (rest.length + 1) cf2]) (by rw [results_cell_tmp rfl]; simp [go_sem, cc]) rfl ⟨_, (some ⟨gf, 0, none⟩), (rest ++ [m0]), cf2, (by simp), HF.out⟩
    · have hcn : ¬ c = 1 := by omega
      have hi1 : (1 : Int) ≤ (rest.length : Int) + 1 := by omega
      go_upto_region 8 with fail
      refine wp_region_held_drew (S := fun wy => wy.cell? ⟨b, 0, none⟩ = some (.string m0)) (by kernel_rfl) HC0.out (fun hS => ?_)
      replace HT0 := Hid.intro HT0.out.drew
      replace HKB := Hid.intro HKB.out.drew
      replace HCR : Hid (∀ (j : Nat) (x : ByteArray), rest[j]? = some x → wn.drew.cell? ⟨b, 1 + j, none⟩ = some (.string x)) := HCR.out
      replace HC0 : Hid (wn.drew.cell? ⟨b, 0, none⟩ = some (.string m0)) := HC0.out
      replace hbb : w3.heap.size ≤ b ∧ b < wn.drew.heap.size := hbb
      generalize wn.drew = wn at *
      refine wpAnyH_take (i := 0) (oi := { dst := some 35, op := _, type := _, pos := _, after := _, guard := none }) (v := .slice (some ⟨b, 0, none⟩) (rest.length + 1) c) rfl (by kernel_rfl) (by kernel_rfl) (by kernel_rfl) (fun _ _ _ h => h) (Or.inl ⟨by rfl, ?_⟩) hS ?_
      · intro wy hy
        clear hy
        go_simp
      simp only [Act.put, List.setIfInBounds_toArray, List.set_cons_zero, List.set_cons_succ]
      refine wpAnyH_take (i := 1) (oi := { dst := some 36, op := _, type := _, pos := _, after := _, guard := none }) (v := .slice (some ⟨b, 1, none⟩) rest.length (c - 1)) rfl (by kernel_rfl) (by kernel_rfl) (by kernel_rfl) (fun _ _ _ h => h) (Or.inl ⟨by rfl, ?_⟩) hS ?_
      · intro wy hy
        clear hy
        go_simp
      simp only [Act.put, List.setIfInBounds_toArray, List.set_cons_zero, List.set_cons_succ]
      refine wpAnyH_take (i := 2) (oi := { dst := some 37, op := _, type := _, pos := _, after := _, guard := none }) (v := .slice (some ⟨b, 0, none⟩) (rest.length + 1) c) rfl (by kernel_rfl) (by kernel_rfl) (by kernel_rfl) (fun _ _ _ h => h) (Or.inl ⟨by rfl, ?_⟩) hS ?_
      · intro wy hy
        clear hy
        go_simp
      simp only [Act.put, List.setIfInBounds_toArray, List.set_cons_zero, List.set_cons_succ]
      refine wpAnyH_take (i := 3) (oi := { dst := some 38, op := _, type := _, pos := _, after := _, guard := none }) (v := .pointer (some ⟨b, 0, none⟩)) rfl (by kernel_rfl) (by kernel_rfl) (by kernel_rfl) (fun _ _ _ h => h) (Or.inl ⟨by rfl, ?_⟩) hS ?_
      · intro wy hy
        clear hy
        first | (go_simp; done) | (go_simp; omega) | (go_simp; intro hh; omega)
      simp only [Act.put, List.setIfInBounds_toArray, List.set_cons_zero, List.set_cons_succ]
      refine wpAnyH_take (i := 4) (oi := { dst := some 39, op := _, type := _, pos := _, after := _, guard := none }) (v := .string m0) rfl (by kernel_rfl) (by kernel_rfl) (by kernel_rfl) (fun _ _ _ h => h) (Or.inl ⟨by rfl, ?_⟩) hS ?_
      · intro wy hy
        have h0 := id hy
        clear hy
        go_simp
      simp only [Act.put, List.setIfInBounds_toArray, List.set_cons_zero, List.set_cons_succ]
      refine wpAnyH_ready (rs := [5]) (by kernel_rfl) (by simp) (AllReadyH.cons (o := { dst := some 40, op := _, type := _, pos := _, after := _, guard := none }) rfl (fun KK hKK => ?_) AllReadyH.nil)
      go_simp
      have hba : Below wn.heap.size wn (wn.alloc (Obj.cells #[.string m0] 9)) := (Below.refl _ _).alloc (Nat.le_refl _) _
      have HNW := Hid.intro (news_str wn m0 9)
      have HTA : Hid (Bt p w3.heap.size w3 (wn.alloc (Obj.cells #[.string m0] 9))) := HT0.out.trans ((Bt.of_below hba).mono HT0.out.size)
      have HCA : Hid ((wn.alloc (Obj.cells #[.string m0] 9)).cell? ⟨b, 0, none⟩ = some (.string m0)) := (hba.cell (p := ⟨b, 0, none⟩) hbb.2).trans HC0.out
      have HRA : Hid (∀ (j : Nat) (x : ByteArray), rest[j]? = some x → (wn.alloc (Obj.cells #[.string m0] 9)).cell? ⟨b, 1 + j, none⟩ = some (.string x)) := fun j x hj => (hba.cell (p := ⟨b, 1 + j, none⟩) hbb.2).trans (HCR.out j x hj)
      have HBA := Hid.intro (HKB.out.below hba hbb.2)
      have hsa : wn.heap.size ≤ (wn.alloc (Obj.cells #[.string m0] 9)).heap.size := hba.size
      refine hKK.out _ _ HCA.out (fun hS => ?_)
      clear hKK KK hba HT0 HCR HC0 HKB
      generalize hwa : wn.heap.size = ga at *
      generalize wn.alloc (Obj.cells #[.string m0] 9) = wa at *
      clear hwa
      refine wpAnyH_ready (rs := [6]) (by kernel_rfl) (by simp) (AllReadyH.cons (o := { dst := some 41, op := _, type := _, pos := _, after := _, guard := none }) rfl (fun KK hKK => ?_) AllReadyH.nil)
      refine step_append_room rfl (.tmp 36) (.tmp 40) 26 rfl 9 iS 1 Tryz.underlying26 hiS hs1 b 1 rest.length (c - 1) (by first | rfl | simp [Act.eval]) ⟨ga, 0, none⟩ 1 1 [.string m0] (by first | rfl | simp [Act.eval]) rfl HNW.out (oneSt _) (by omega) (fun j hj => ?_) ?_
      · have hj0 : j = 0 := by simpa using hj
        subst hj0
        obtain ⟨u0, hu0⟩ : ∃ u0, cur[1 + rest.length]? = some u0 := ⟨cur[1 + rest.length]'(by omega), Array.getElem?_eq_getElem (by omega)⟩
        refine ⟨?_, HBA.out.frozen _⟩
        rw [Nat.mul_one, Nat.add_zero, HBA.out.cell hu0]
        rfl
      obtain ⟨wf, hwf⟩ : ∃ wf, wf = wa.setCells b (1 + rest.length * 1) [.string m0] := ⟨_, rfl⟩
      rw [← hwf]
      have hws : wf = wa.setCell ⟨b, 1 + rest.length, none⟩ (.string m0) := by rw [hwf, Nat.mul_one]; rfl
      have hm : ∀ (j : Nat) (x : ByteArray), (rest ++ [m0])[j]? = some x → wf.cell? ⟨b, 1 + j, none⟩ = some (.string x) := fun j x hj => by
        rw [hws]
        rcases Nat.lt_or_ge j rest.length with h | h
        · rw [List.getElem?_append_left h] at hj
          exact (World.cell?_setCell_other _ _ _ _ (fun e => by injection e with _ e _; omega)).trans (HRA.out j x hj)
        · rw [List.getElem?_append_right h] at hj
          have hj0 : j = rest.length := by
            rcases Nat.eq_zero_or_pos (j - rest.length) with h0 | h0
            · omega
            · rw [List.getElem?_eq_none (by simp; omega)] at hj; cases hj
          subst hj0
          simp at hj
          subst hj
          obtain ⟨u0, hu0⟩ : ∃ u0, cur[1 + rest.length]? = some u0 := ⟨cur[1 + rest.length]'(by omega), Array.getElem?_eq_getElem (by omega)⟩
          exact World.cell?_setCell_same _ _ _ (HBA.out.cell hu0)
      have hT : Bt p w3.heap.size w3 wf := by rw [hws]; exact HTA.out.trans (Bt.of_below ((Below.refl _ _).setCell (show w3.heap.size ≤ (⟨b, 1 + rest.length, none⟩ : Addr).block from hbb.1) _))
      have hmb : b < wf.heap.size := by rw [hws]; simp [World.setCell]; omega
      have hS2 : wf.cell? ⟨b, 0, none⟩ = some (.string m0) := by rw [hws]; exact (World.cell?_setCell_other _ _ _ _ (fun e => by injection e with _ e _; omega)).trans HCA.out
      have hmz : w.heap.size < b := by omega
      clear hwf hws HTA HCA HRA HBA HNW
      refine hKK.out _ _ hS2 (fun hS => ?_)
      clear hKK KK hS2
      refine wpAnyH_take (i := 7) (oi := { dst := some 6, op := _, type := _, pos := _, after := _, guard := none }) (v := .slice (some ⟨b, 1, none⟩) (rest.length + 1) (c - 1)) rfl (by kernel_rfl) (by kernel_rfl) (by kernel_rfl) (fun _ _ _ h => h) (Or.inl ⟨by rfl, ?_⟩) hS ?_
      · intro wy hy
        clear hy
        go_simp
      simp only [Act.put, List.setIfInBounds_toArray, List.set_cons_zero, List.set_cons_succ]
      refine wpAnyH_done (by kernel_rfl) ?_ _
      clear hS
      generalize wf = wn at *
      have HKf := HK.out.bt hT HK.out.lt hzp
      have HXf := HX.out.bt hT hx3 hxp
      have HNf := HN.out.bt hT (Nat.le_refl _) hp1
      have hbf : Below w.heap.size w wn := hbw.trans (hT.below (by omega) (by omega))
      have cc : (wn.setCell ⟨w.heap.size, 0, none⟩ (.slice (some ⟨g, 0, none⟩) ns.length cq)).cell? ⟨w.heap.size, 0, none⟩ = some (.slice (some ⟨g, 0, none⟩) ns.length cq) := (HKf.set 0 (.slice (some ⟨g, 0, none⟩) ns.length cq)).cell rfl
      have cf := HKf.frozen 0
      have c9 : wn.cell? ⟨w.heap.size, 0, none⟩ = some (.slice none 0 0) := HKf.cell rfl
      have cx : wn.cell? ⟨zx, 0, none⟩ = some (.slice (some ⟨g, 0, none⟩) ns.length cq) := HXf.cell rfl
      have hbs : Below w.heap.size w (wn.setCell ⟨w.heap.size, 0, none⟩ (.slice (some ⟨g, 0, none⟩) ns.length cq)) := hbf.trans ((Below.refl _ _).setCell (show w.heap.size ≤ (⟨w.heap.size, 0, none⟩ : Addr).block from Nat.le_refl _) _)
      have HF : Hid (DrQ w (wn.setCell ⟨w.heap.size, 0, none⟩ (.slice (some ⟨g, 0, none⟩) ns.length cq)) (.slice (some ⟨g, 0, none⟩) ns.length cq) (some ⟨b, 1, none⟩) (rest ++ [m0])) := ⟨hml, hms, marks_row (by omega) hms (by simpa [World.setCell] using hmb) (fun j x hj => (World.cell?_setCell_other _ _ _ _ (fun h => by injection h with h _ _; omega)).trans (hm j x hj)), ns, (HNf.set (by omega) 0 _).mono (by omega), hln, HS.out, hbs⟩
      clear hbs hbf HKf HXf HNf hT hm
      go_wp2_with fail
      refine bodyPost_ret (v := .tuple #[.agg #[.slice (some ⟨g, 0, none⟩) ns.length cq], .slice (some ⟨b, 1, none⟩) (rest.length + 1) (c - 1)]) (by rw [results_cell_tmp rfl]; simp [go_sem, cc]) rfl ⟨_, (some ⟨b, 1, none⟩), (rest ++ [m0]), (c - 1), (by simp), HF.out⟩
  · have v0 : ¬ (v : Int) = 0 := by omega
    have v1 : ((v : Int) == 0) = false := by simpa using v0
    have v2 : ¬ (v : Int) = 1 := by omega
    have v3 : ((v : Int) == 1) = false := by simpa using v2
    have hT := HM.out.T
    have hm := own_cells HM.out.O
    have hml : ms.length ≤ 10 := by have := HM.out.L; omega
    have hms := HM.out.S
    have hmb := HM.out.blk.2
    have hmz : w.heap.size < b := by have := HM.out.blk.1; omega
    have HKf := HK.out.bt hT HK.out.lt hzp
    have HXf := HX.out.bt hT hx3 hxp
    have HNf := HN.out.bt hT (Nat.le_refl _) hp1
    have hbf : Below w.heap.size w wn := hbw.trans (hT.below (by omega) (by omega))
    have cc : (wn.setCell ⟨w.heap.size, 0, none⟩ (.slice (some ⟨g, 0, none⟩) ns.length cq)).cell? ⟨w.heap.size, 0, none⟩ = some (.slice (some ⟨g, 0, none⟩) ns.length cq) := (HKf.set 0 (.slice (some ⟨g, 0, none⟩) ns.length cq)).cell rfl
    have cf := HKf.frozen 0
    have c9 : wn.cell? ⟨w.heap.size, 0, none⟩ = some (.slice none 0 0) := HKf.cell rfl
    have cx : wn.cell? ⟨zx, 0, none⟩ = some (.slice (some ⟨g, 0, none⟩) ns.length cq) := HXf.cell rfl
    have hbs : Below w.heap.size w (wn.setCell ⟨w.heap.size, 0, none⟩ (.slice (some ⟨g, 0, none⟩) ns.length cq)) := hbf.trans ((Below.refl _ _).setCell (show w.heap.size ≤ (⟨w.heap.size, 0, none⟩ : Addr).block from Nat.le_refl _) _)
    have HF : Hid (DrQ w (wn.setCell ⟨w.heap.size, 0, none⟩ (.slice (some ⟨g, 0, none⟩) ns.length cq)) (.slice (some ⟨g, 0, none⟩) ns.length cq) (some ⟨b, 0, none⟩) ms) := ⟨hml, hms, marks_row (by omega) hms (by simpa [World.setCell] using hmb) (fun j x hj => (World.cell?_setCell_other _ _ _ _ (fun h => by injection h with h _ _; omega)).trans (hm j x hj)), ns, (HNf.set (by omega) 0 _).mono (by omega), hln, HS.out, hbs⟩
    clear hbs hbf HKf HXf HNf hT hm
    go_wp2_with fail
    refine bodyPost_ret (v := .tuple #[.agg #[.slice (some ⟨g, 0, none⟩) ns.length cq], .slice (some ⟨b, 0, none⟩) ms.length c]) (by rw [results_cell_tmp rfl]; simp [go_sem, cc]) rfl ⟨_, (some ⟨b, 0, none⟩), ms, c, rfl, HF.out⟩

end Go.Proofs.YthjicahpfhjfdaaGreatDoor
