/-
  Marks drawn (made by mkslf.py).
-/
import Derived.Test.YthjicahpfhjfdaaGreatDoorSlE
namespace Go.Proofs.YthjicahpfhjfdaaGreatDoor
open Go.RowKit

theorem infoSt : (Tryz.prog.info? 9).map (fun i => (i.zero, i.size, i.bytes)) = some (some (.string ⟨#[]⟩), 1, 16) := by kernel_rfl

/-- a row of texts of the call's own, beside a reader -/
structure MkR (p n m : Nat) (W w : World) (b c : Nat) (ms : List ByteArray) : Prop where
  O : w.ownsRow W.heap.size 9 1 (.slice (some ⟨b, 0, none⟩) ms.length c) ms.length (ms.map Value.string)
  L : ms.length ≤ m
  S : ∀ s ∈ ms, s.size ≤ 700
  R : RdL p n w
  T : Bt p W.heap.size W w
  P : p < W.heap.size

theorem MkR.blk {p n m b c : Nat} {W w : World} {ms : List ByteArray} (h : MkR p n m W w b c ms) : W.heap.size ≤ b ∧ b < w.heap.size := h.O.lt b rfl
theorem MkR.sz {p n m b c : Nat} {W w : World} {ms : List ByteArray} (h : MkR p n m W w b c ms) : W.heap.size ≤ w.heap.size := h.T.size
theorem MkR.below {p n m b c : Nat} {W w w' : World} {ms : List ByteArray} (h : MkR p n m W w b c ms) (hb : Below w.heap.size w w') : MkR p n m W w' b c ms :=
  ⟨own_at h.O (hb.block _ h.blk.2), h.L, h.S, h.R.below hb h.R.lt, h.T.trans ((Bt.of_below hb).mono h.T.size), h.P⟩
theorem MkR.bt {p n n' m b c : Nat} {W w w' : World} {ms : List ByteArray} (h : MkR p n m W w b c ms) (hb : Bt p w.heap.size w w') (hr : RdL p n' w') : MkR p n' m W w' b c ms :=
  ⟨own_at h.O (hb.block _ h.blk.2 (by have := h.blk.1; have := h.P; omega)), h.L, h.S, hr, h.T.trans (hb.mono h.T.size), h.P⟩
theorem MkR.app {p n m b c b' c' : Nat} {W w w' : World} {ms : List ByteArray} (h : MkR p n m W w b c ms) {s : ByteArray} (hs : s.size ≤ 700) (hO : w'.ownsRow W.heap.size 9 1 (.slice (some ⟨b', 0, none⟩) (ms.length + 1) c') (ms.length + 1) (ms.map Value.string ++ [.string s])) {row : Option Nat} (hg : w.grownBy w' row) (hr : row = some b) : MkR p n (m + 1) W w' b' c' (ms ++ [s]) := by
  subst hr
  have hbb : Below W.heap.size w w' := (Below.refl _ _).grown hg h.sz (fun i hi => by cases hi; exact h.blk.1)
  refine ⟨?_, by have := h.L; simp; omega, fun x hx => ?_, h.R.below hbb h.P, h.T.trans (Bt.of_below hbb), h.P⟩
  · have : (ms ++ [s]).length = ms.length + 1 := by simp
    rw [this, List.map_append]
    exact hO
  · rcases List.mem_append.1 hx with h' | h'
    · exact h.S x h'
    · rw [List.mem_singleton.1 h']; exact hs
theorem MkR.more {p n n' m m' b c : Nat} {W w : World} {ms : List ByteArray} (h : MkR p n m W w b c ms) (hn : n ≤ n') (hm : m ≤ m') : MkR p n' m' W w b c ms := ⟨h.O, Nat.le_trans h.L hm, h.S, h.R.mono hn, h.T, h.P⟩

theorem news_str (w : World) (s : ByteArray) (T : TypeId) : ∀ (j : Nat) (u : Value), [Value.string s][j]? = some u → (w.alloc (.cells #[.string s] T)).cell? ((⟨w.heap.size, 0, none⟩ : Addr).add j) = some u := news_oneV w (.string s) T
theorem oneSt (s : ByteArray) : ∀ u ∈ [Value.string s], u.oneCell' = true := fun u hu => by rw [List.mem_singleton.1 hu]; rfl

set_option maxHeartbeats 8000000 in
set_option maxRecDepth 100000 in
theorem marks_any (p n : Nat) (w : World) (hR : RdL p n w) (hn : n ≤ 800000) :
    Calls Tryz.prog 15 #[.pointer (some ⟨p, 0, none⟩)] w fun e w' => ∃ (ms : List ByteArray) (b c : Nat), e = .returned (.slice (some ⟨b, 0, none⟩) ms.length c) ∧ MkR p (n + 6) 4 w w' b c ms := by
  obtain ⟨iS, hiS, hs0, hs1, hs2⟩ := info_parts infoSt
  have hb0 : Below w.heap.size w (w.alloc (Obj.cells #[] 9)) := (Below.refl _ _).alloc (Nat.le_refl _) _
  have HM : Hid (MkR p (n + 0) 0 w (w.alloc (Obj.cells #[] 9)) w.heap.size 0 []) := ⟨World.ownsRow_made (e := 9) (size := 1) (base := w.heap.size) w #[] 0 (Nat.le_refl _) (Nat.zero_le _) rfl, Nat.le_refl _, (fun s h => by cases h), hR.below hb0 hR.lt, Bt.of_below hb0, hR.lt⟩
  have hpl := hR.lt
  clear hb0 hR
  go_enter Tryz.func15, Tryz.ntmps15
  go_wp2_with fail
  generalize w.alloc (Obj.cells #[] 9) = wn at *
  obtain ⟨ms, b, c, he, HM⟩ : ∃ (ms : List ByteArray) (b c : Nat), Value.slice (some ⟨w.heap.size, 0, none⟩) 0 0 = .slice (some ⟨b, 0, none⟩) ms.length c ∧ Hid (MkR p (n + 0) 0 w wn b c ms) := ⟨[], w.heap.size, 0, rfl, HM⟩
  rw [he]
  clear he
  refine (pickL p (n + 0) 2 _ HM.out.R (by omega) (by omega) (by omega)).mono ?_
  rintro e wn ⟨v, rfl, hv, hr, hb⟩
  replace HM := Hid.intro (HM.out.bt hb hr)
  clear hr hb
  by_cases hv0 : v = 0
  · subst hv0
    have hba : Below wn.heap.size wn (wn.alloc (Obj.cells #[.string ⟨#[114, 101, 100]⟩, .string ⟨#[97]⟩] 9)) := (Below.refl _ _).alloc (Nat.le_refl _) _
    have HT : Hid (Blk wn.heap.size #[.string ⟨#[114, 101, 100]⟩, .string ⟨#[97]⟩] 9 (wn.alloc (Obj.cells #[.string ⟨#[114, 101, 100]⟩, .string ⟨#[97]⟩] 9))) := Blk.alloc _ _ _
    have hgt : w.heap.size ≤ wn.heap.size := HM.out.sz
    replace HM := Hid.intro (HM.out.below hba)
    clear hba
    go_wp2_with fail
    generalize wn.alloc (Obj.cells #[.string ⟨#[114, 101, 100]⟩, .string ⟨#[97]⟩] 9) = wt at *
    generalize wn.heap.size = gt at *
    refine (pickL p (n + 1) 2 _ HM.out.R (by omega) (by omega) (by omega)).mono ?_
    rintro e wn ⟨u, rfl, hu, hr, hb⟩
    replace HT := Hid.intro (HT.out.bt hb HT.out.lt (by omega))
    replace HM := Hid.intro (HM.out.bt hb hr)
    clear hr hb
    obtain ⟨s, hs, hz⟩ := tabS [⟨#[114, 101, 100]⟩, ⟨#[97]⟩] u (by simp; omega) (by decide)
    have c0 : wn.cell? ⟨gt, u, none⟩ = some (.string s) := HT.out.cell hs
    have i0 : (0 : Int) ≤ (u : Int) := by omega
    have hgl : gt < wn.heap.size := HT.out.lt
    clear hs
    have hba : Below wn.heap.size wn (wn.alloc (Obj.cells #[.string ((⟨#[99, 111, 108, 111, 114, 61]⟩ : ByteArray) ++ s)] 9)) := (Below.refl _ _).alloc (Nat.le_refl _) _
    replace HM := Hid.intro (HM.out.below hba)
    have hszA := HM.out.sz
    have hL := HM.out.L
    clear hba
    go_wp2_with (at_builtin; refine wpList_append_own_at _ rfl (.tmp 8) (.tmp 15) 26 rfl w.heap.size 9 iS _ 1 16 Tryz.underlying26 hiS hs0 hs1 hs2 rfl (by decide) _ ms.length _ rfl HM.out.O ⟨wn.heap.size, 0, none⟩ 1 1 [.string ((⟨#[99, 111, 108, 111, 114, 61]⟩ : ByteArray) ++ s)] rfl rfl (news_str _ _ _) (oneSt _) (by unfold maxLen; omega) (by omega) hszA ?_; intro v' wn hown hgrow hnil _; have hv : v' ≠ .slice none 0 0 := (fun e => by have h9 := (hnil.1 e).1; cases h9); obtain ⟨b, c, rfl⟩ := own_slice hown hv; replace HM := Hid.intro (HM.out.app (s := ((⟨#[99, 111, 108, 111, 114, 61]⟩ : ByteArray) ++ s)) (by rw [ByteArray.size_append]; have : (⟨#[99, 111, 108, 111, 114, 61]⟩ : ByteArray).size = 6 := rfl; omega) hown hgrow rfl); clear hown hgrow hnil hv hszA hL)
    have hlx : (ms ++ [((⟨#[99, 111, 108, 111, 114, 61]⟩ : ByteArray) ++ s)]).length = ms.length + 1 := by simp
    rw [← hlx]
    skip
    clear hlx
    generalize ms ++ [((⟨#[99, 111, 108, 111, 114, 61]⟩ : ByteArray) ++ s)] = ms at *
    clear HT c0 i0 hgl hgt hu hz
    refine (pickL p (n + 2) 3 _ HM.out.R (by omega) (by omega) (by omega)).mono ?_
    rintro e wn ⟨v, rfl, hv, hr, hb⟩
    replace HM := Hid.intro (HM.out.bt hb hr)
    clear hr hb
    by_cases hv0 : v = 0
    · subst hv0
      have hba : Below wn.heap.size wn (wn.alloc (Obj.cells #[.string (⟨#[103, 112, 117]⟩ : ByteArray)] 9)) := (Below.refl _ _).alloc (Nat.le_refl _) _
      replace HM := Hid.intro (HM.out.below hba)
      have hszA := HM.out.sz
      have hL := HM.out.L
      clear hba
      go_wp2_with (at_builtin; refine wpList_append_own_at _ rfl (.tmp 20) (.tmp 21) 26 rfl w.heap.size 9 iS _ 1 16 Tryz.underlying26 hiS hs0 hs1 hs2 rfl (by decide) _ ms.length _ rfl HM.out.O ⟨wn.heap.size, 0, none⟩ 1 1 [.string (⟨#[103, 112, 117]⟩ : ByteArray)] rfl rfl (news_str _ _ _) (oneSt _) (by unfold maxLen; omega) (by omega) hszA ?_; intro v' wn hown hgrow hnil _; have hv : v' ≠ .slice none 0 0 := (fun e => by have h9 := (hnil.1 e).1; cases h9); obtain ⟨b, c, rfl⟩ := own_slice hown hv; replace HM := Hid.intro (HM.out.app (s := (⟨#[103, 112, 117]⟩ : ByteArray)) (by decide) hown hgrow rfl); clear hown hgrow hnil hv hszA hL)
      have hlx : (ms ++ [(⟨#[103, 112, 117]⟩ : ByteArray)]).length = ms.length + 1 := by simp
      rw [← hlx]
      skip
      clear hlx
      generalize ms ++ [(⟨#[103, 112, 117]⟩ : ByteArray)] = ms at *
      refine (pickL p (n + 3) 3 _ HM.out.R (by omega) (by omega) (by omega)).mono ?_
      rintro e wn ⟨v, rfl, hv, hr, hb⟩
      replace HM := Hid.intro (HM.out.bt hb hr)
      clear hr hb
      by_cases hv0 : v = 0
      · subst hv0
        have hba : Below wn.heap.size wn (wn.alloc (Obj.cells #[.string (⟨#[111, 108, 100]⟩ : ByteArray)] 9)) := (Below.refl _ _).alloc (Nat.le_refl _) _
        replace HM := Hid.intro (HM.out.below hba)
        have hszA := HM.out.sz
        have hL := HM.out.L
        clear hba
        go_wp2_with (at_builtin; refine wpList_append_own_at _ rfl (.tmp 26) (.tmp 27) 26 rfl w.heap.size 9 iS _ 1 16 Tryz.underlying26 hiS hs0 hs1 hs2 rfl (by decide) _ ms.length _ rfl HM.out.O ⟨wn.heap.size, 0, none⟩ 1 1 [.string (⟨#[111, 108, 100]⟩ : ByteArray)] rfl rfl (news_str _ _ _) (oneSt _) (by unfold maxLen; omega) (by omega) hszA ?_; intro v' wn hown hgrow hnil _; have hv : v' ≠ .slice none 0 0 := (fun e => by have h9 := (hnil.1 e).1; cases h9); obtain ⟨b, c, rfl⟩ := own_slice hown hv; replace HM := Hid.intro (HM.out.app (s := (⟨#[111, 108, 100]⟩ : ByteArray)) (by decide) hown hgrow rfl); clear hown hgrow hnil hv hszA hL)
        have hlx : (ms ++ [(⟨#[111, 108, 100]⟩ : ByteArray)]).length = ms.length + 1 := by simp
        rw [← hlx]
        skip
        clear hlx
        generalize ms ++ [(⟨#[111, 108, 100]⟩ : ByteArray)] = ms at *
        refine (pickL p (n + 4) 2 _ HM.out.R (by omega) (by omega) (by omega)).mono ?_
        rintro e wn ⟨v, rfl, hv, hr, hb⟩
        replace HM := Hid.intro (HM.out.bt hb hr)
        clear hr hb
        by_cases hv0 : v = 0
        · subst hv0
          have hba : Below wn.heap.size wn (wn.alloc (Obj.cells #[.string ⟨#[115, 115, 100]⟩, .string ⟨#[115, 115, 100, 61, 97]⟩] 9)) := (Below.refl _ _).alloc (Nat.le_refl _) _
          have HT : Hid (Blk wn.heap.size #[.string ⟨#[115, 115, 100]⟩, .string ⟨#[115, 115, 100, 61, 97]⟩] 9 (wn.alloc (Obj.cells #[.string ⟨#[115, 115, 100]⟩, .string ⟨#[115, 115, 100, 61, 97]⟩] 9))) := Blk.alloc _ _ _
          have hgt : w.heap.size ≤ wn.heap.size := HM.out.sz
          replace HM := Hid.intro (HM.out.below hba)
          clear hba
          go_wp2_with fail
          generalize wn.alloc (Obj.cells #[.string ⟨#[115, 115, 100]⟩, .string ⟨#[115, 115, 100, 61, 97]⟩] 9) = wt at *
          generalize wn.heap.size = gt at *
          refine (pickL p (n + 5) 2 _ HM.out.R (by omega) (by omega) (by omega)).mono ?_
          rintro e wn ⟨u, rfl, hu, hr, hb⟩
          replace HT := Hid.intro (HT.out.bt hb HT.out.lt (by omega))
          replace HM := Hid.intro (HM.out.bt hb hr)
          clear hr hb
          obtain ⟨s, hs, hz⟩ := tabS [⟨#[115, 115, 100]⟩, ⟨#[115, 115, 100, 61, 97]⟩] u (by simp; omega) (by decide)
          have c0 : wn.cell? ⟨gt, u, none⟩ = some (.string s) := HT.out.cell hs
          have i0 : (0 : Int) ≤ (u : Int) := by omega
          have hgl : gt < wn.heap.size := HT.out.lt
          clear hs
          have hba : Below wn.heap.size wn (wn.alloc (Obj.cells #[.string s] 9)) := (Below.refl _ _).alloc (Nat.le_refl _) _
          replace HM := Hid.intro (HM.out.below hba)
          have hszA := HM.out.sz
          have hL := HM.out.L
          clear hba
          go_wp2_with (at_builtin; refine wpList_append_own_at _ rfl (.tmp 32) (.tmp 38) 26 rfl w.heap.size 9 iS _ 1 16 Tryz.underlying26 hiS hs0 hs1 hs2 rfl (by decide) _ ms.length _ rfl HM.out.O ⟨wn.heap.size, 0, none⟩ 1 1 [.string s] rfl rfl (news_str _ _ _) (oneSt _) (by unfold maxLen; omega) (by omega) hszA ?_; intro v' wn hown hgrow hnil _; have hv : v' ≠ .slice none 0 0 := (fun e => by have h9 := (hnil.1 e).1; cases h9); obtain ⟨b, c, rfl⟩ := own_slice hown hv; replace HM := Hid.intro (HM.out.app (s := s) (by omega) hown hgrow rfl); clear hown hgrow hnil hv hszA hL)
          have hlx : (ms ++ [s]).length = ms.length + 1 := by simp
          rw [← hlx]
          skip
          clear hlx
          generalize ms ++ [s] = ms at *
          clear HT c0 i0 hgl hgt hu hz
          go_ret
          exact ⟨ms, b, c, rfl, HM.out.more (by omega) (by omega)⟩
        · have v0 : ¬ (v : Int) = 0 := by omega
          have v1 : ((v : Int) == 0) = false := by simpa using hv0
          replace HM := Hid.intro (HM.out.more (Nat.le_refl _) (Nat.le_succ _))
          go_wp2_with fail
          clear v0 v1 hv0 hv
          go_ret
          exact ⟨ms, b, c, rfl, HM.out.more (by omega) (by omega)⟩
      · have v0 : ¬ (v : Int) = 0 := by omega
        have v1 : ((v : Int) == 0) = false := by simpa using hv0
        replace HM := Hid.intro (HM.out.more (Nat.le_refl _) (Nat.le_succ _))
        go_wp2_with fail
        clear v0 v1 hv0 hv
        refine (pickL p (n + 4) 2 _ HM.out.R (by omega) (by omega) (by omega)).mono ?_
        rintro e wn ⟨v, rfl, hv, hr, hb⟩
        replace HM := Hid.intro (HM.out.bt hb hr)
        clear hr hb
        by_cases hv0 : v = 0
        · subst hv0
          have hba : Below wn.heap.size wn (wn.alloc (Obj.cells #[.string ⟨#[115, 115, 100]⟩, .string ⟨#[115, 115, 100, 61, 97]⟩] 9)) := (Below.refl _ _).alloc (Nat.le_refl _) _
          have HT : Hid (Blk wn.heap.size #[.string ⟨#[115, 115, 100]⟩, .string ⟨#[115, 115, 100, 61, 97]⟩] 9 (wn.alloc (Obj.cells #[.string ⟨#[115, 115, 100]⟩, .string ⟨#[115, 115, 100, 61, 97]⟩] 9))) := Blk.alloc _ _ _
          have hgt : w.heap.size ≤ wn.heap.size := HM.out.sz
          replace HM := Hid.intro (HM.out.below hba)
          clear hba
          go_wp2_with fail
          generalize wn.alloc (Obj.cells #[.string ⟨#[115, 115, 100]⟩, .string ⟨#[115, 115, 100, 61, 97]⟩] 9) = wt at *
          generalize wn.heap.size = gt at *
          refine (pickL p (n + 5) 2 _ HM.out.R (by omega) (by omega) (by omega)).mono ?_
          rintro e wn ⟨u, rfl, hu, hr, hb⟩
          replace HT := Hid.intro (HT.out.bt hb HT.out.lt (by omega))
          replace HM := Hid.intro (HM.out.bt hb hr)
          clear hr hb
          obtain ⟨s, hs, hz⟩ := tabS [⟨#[115, 115, 100]⟩, ⟨#[115, 115, 100, 61, 97]⟩] u (by simp; omega) (by decide)
          have c0 : wn.cell? ⟨gt, u, none⟩ = some (.string s) := HT.out.cell hs
          have i0 : (0 : Int) ≤ (u : Int) := by omega
          have hgl : gt < wn.heap.size := HT.out.lt
          clear hs
          have hba : Below wn.heap.size wn (wn.alloc (Obj.cells #[.string s] 9)) := (Below.refl _ _).alloc (Nat.le_refl _) _
          replace HM := Hid.intro (HM.out.below hba)
          have hszA := HM.out.sz
          have hL := HM.out.L
          clear hba
          go_wp2_with (at_builtin; refine wpList_append_own_at _ rfl (.tmp 32) (.tmp 38) 26 rfl w.heap.size 9 iS _ 1 16 Tryz.underlying26 hiS hs0 hs1 hs2 rfl (by decide) _ ms.length _ rfl HM.out.O ⟨wn.heap.size, 0, none⟩ 1 1 [.string s] rfl rfl (news_str _ _ _) (oneSt _) (by unfold maxLen; omega) (by omega) hszA ?_; intro v' wn hown hgrow hnil _; have hv : v' ≠ .slice none 0 0 := (fun e => by have h9 := (hnil.1 e).1; cases h9); obtain ⟨b, c, rfl⟩ := own_slice hown hv; replace HM := Hid.intro (HM.out.app (s := s) (by omega) hown hgrow rfl); clear hown hgrow hnil hv hszA hL)
          have hlx : (ms ++ [s]).length = ms.length + 1 := by simp
          rw [← hlx]
          skip
          clear hlx
          generalize ms ++ [s] = ms at *
          clear HT c0 i0 hgl hgt hu hz
          go_ret
          exact ⟨ms, b, c, rfl, HM.out.more (by omega) (by omega)⟩
        · have v0 : ¬ (v : Int) = 0 := by omega
          have v1 : ((v : Int) == 0) = false := by simpa using hv0
          replace HM := Hid.intro (HM.out.more (Nat.le_refl _) (Nat.le_succ _))
          go_wp2_with fail
          clear v0 v1 hv0 hv
          go_ret
          exact ⟨ms, b, c, rfl, HM.out.more (by omega) (by omega)⟩
    · have v0 : ¬ (v : Int) = 0 := by omega
      have v1 : ((v : Int) == 0) = false := by simpa using hv0
      replace HM := Hid.intro (HM.out.more (Nat.le_refl _) (Nat.le_succ _))
      go_wp2_with fail
      clear v0 v1 hv0 hv
      refine (pickL p (n + 3) 3 _ HM.out.R (by omega) (by omega) (by omega)).mono ?_
      rintro e wn ⟨v, rfl, hv, hr, hb⟩
      replace HM := Hid.intro (HM.out.bt hb hr)
      clear hr hb
      by_cases hv0 : v = 0
      · subst hv0
        have hba : Below wn.heap.size wn (wn.alloc (Obj.cells #[.string (⟨#[111, 108, 100]⟩ : ByteArray)] 9)) := (Below.refl _ _).alloc (Nat.le_refl _) _
        replace HM := Hid.intro (HM.out.below hba)
        have hszA := HM.out.sz
        have hL := HM.out.L
        clear hba
        go_wp2_with (at_builtin; refine wpList_append_own_at _ rfl (.tmp 26) (.tmp 27) 26 rfl w.heap.size 9 iS _ 1 16 Tryz.underlying26 hiS hs0 hs1 hs2 rfl (by decide) _ ms.length _ rfl HM.out.O ⟨wn.heap.size, 0, none⟩ 1 1 [.string (⟨#[111, 108, 100]⟩ : ByteArray)] rfl rfl (news_str _ _ _) (oneSt _) (by unfold maxLen; omega) (by omega) hszA ?_; intro v' wn hown hgrow hnil _; have hv : v' ≠ .slice none 0 0 := (fun e => by have h9 := (hnil.1 e).1; cases h9); obtain ⟨b, c, rfl⟩ := own_slice hown hv; replace HM := Hid.intro (HM.out.app (s := (⟨#[111, 108, 100]⟩ : ByteArray)) (by decide) hown hgrow rfl); clear hown hgrow hnil hv hszA hL)
        have hlx : (ms ++ [(⟨#[111, 108, 100]⟩ : ByteArray)]).length = ms.length + 1 := by simp
        rw [← hlx]
        skip
        clear hlx
        generalize ms ++ [(⟨#[111, 108, 100]⟩ : ByteArray)] = ms at *
        refine (pickL p (n + 4) 2 _ HM.out.R (by omega) (by omega) (by omega)).mono ?_
        rintro e wn ⟨v, rfl, hv, hr, hb⟩
        replace HM := Hid.intro (HM.out.bt hb hr)
        clear hr hb
        by_cases hv0 : v = 0
        · subst hv0
          have hba : Below wn.heap.size wn (wn.alloc (Obj.cells #[.string ⟨#[115, 115, 100]⟩, .string ⟨#[115, 115, 100, 61, 97]⟩] 9)) := (Below.refl _ _).alloc (Nat.le_refl _) _
          have HT : Hid (Blk wn.heap.size #[.string ⟨#[115, 115, 100]⟩, .string ⟨#[115, 115, 100, 61, 97]⟩] 9 (wn.alloc (Obj.cells #[.string ⟨#[115, 115, 100]⟩, .string ⟨#[115, 115, 100, 61, 97]⟩] 9))) := Blk.alloc _ _ _
          have hgt : w.heap.size ≤ wn.heap.size := HM.out.sz
          replace HM := Hid.intro (HM.out.below hba)
          clear hba
          go_wp2_with fail
          generalize wn.alloc (Obj.cells #[.string ⟨#[115, 115, 100]⟩, .string ⟨#[115, 115, 100, 61, 97]⟩] 9) = wt at *
          generalize wn.heap.size = gt at *
          refine (pickL p (n + 5) 2 _ HM.out.R (by omega) (by omega) (by omega)).mono ?_
          rintro e wn ⟨u, rfl, hu, hr, hb⟩
          replace HT := Hid.intro (HT.out.bt hb HT.out.lt (by omega))
          replace HM := Hid.intro (HM.out.bt hb hr)
          clear hr hb
          obtain ⟨s, hs, hz⟩ := tabS [⟨#[115, 115, 100]⟩, ⟨#[115, 115, 100, 61, 97]⟩] u (by simp; omega) (by decide)
          have c0 : wn.cell? ⟨gt, u, none⟩ = some (.string s) := HT.out.cell hs
          have i0 : (0 : Int) ≤ (u : Int) := by omega
          have hgl : gt < wn.heap.size := HT.out.lt
          clear hs
          have hba : Below wn.heap.size wn (wn.alloc (Obj.cells #[.string s] 9)) := (Below.refl _ _).alloc (Nat.le_refl _) _
          replace HM := Hid.intro (HM.out.below hba)
          have hszA := HM.out.sz
          have hL := HM.out.L
          clear hba
          go_wp2_with (at_builtin; refine wpList_append_own_at _ rfl (.tmp 32) (.tmp 38) 26 rfl w.heap.size 9 iS _ 1 16 Tryz.underlying26 hiS hs0 hs1 hs2 rfl (by decide) _ ms.length _ rfl HM.out.O ⟨wn.heap.size, 0, none⟩ 1 1 [.string s] rfl rfl (news_str _ _ _) (oneSt _) (by unfold maxLen; omega) (by omega) hszA ?_; intro v' wn hown hgrow hnil _; have hv : v' ≠ .slice none 0 0 := (fun e => by have h9 := (hnil.1 e).1; cases h9); obtain ⟨b, c, rfl⟩ := own_slice hown hv; replace HM := Hid.intro (HM.out.app (s := s) (by omega) hown hgrow rfl); clear hown hgrow hnil hv hszA hL)
          have hlx : (ms ++ [s]).length = ms.length + 1 := by simp
          rw [← hlx]
          skip
          clear hlx
          generalize ms ++ [s] = ms at *
          clear HT c0 i0 hgl hgt hu hz
          go_ret
          exact ⟨ms, b, c, rfl, HM.out.more (by omega) (by omega)⟩
        · have v0 : ¬ (v : Int) = 0 := by omega
          have v1 : ((v : Int) == 0) = false := by simpa using hv0
          replace HM := Hid.intro (HM.out.more (Nat.le_refl _) (Nat.le_succ _))
          go_wp2_with fail
          clear v0 v1 hv0 hv
          go_ret
          exact ⟨ms, b, c, rfl, HM.out.more (by omega) (by omega)⟩
      · have v0 : ¬ (v : Int) = 0 := by omega
        have v1 : ((v : Int) == 0) = false := by simpa using hv0
        replace HM := Hid.intro (HM.out.more (Nat.le_refl _) (Nat.le_succ _))
        go_wp2_with fail
        clear v0 v1 hv0 hv
        refine (pickL p (n + 4) 2 _ HM.out.R (by omega) (by omega) (by omega)).mono ?_
        rintro e wn ⟨v, rfl, hv, hr, hb⟩
        replace HM := Hid.intro (HM.out.bt hb hr)
        clear hr hb
        by_cases hv0 : v = 0
        · subst hv0
          have hba : Below wn.heap.size wn (wn.alloc (Obj.cells #[.string ⟨#[115, 115, 100]⟩, .string ⟨#[115, 115, 100, 61, 97]⟩] 9)) := (Below.refl _ _).alloc (Nat.le_refl _) _
          have HT : Hid (Blk wn.heap.size #[.string ⟨#[115, 115, 100]⟩, .string ⟨#[115, 115, 100, 61, 97]⟩] 9 (wn.alloc (Obj.cells #[.string ⟨#[115, 115, 100]⟩, .string ⟨#[115, 115, 100, 61, 97]⟩] 9))) := Blk.alloc _ _ _
          have hgt : w.heap.size ≤ wn.heap.size := HM.out.sz
          replace HM := Hid.intro (HM.out.below hba)
          clear hba
          go_wp2_with fail
          generalize wn.alloc (Obj.cells #[.string ⟨#[115, 115, 100]⟩, .string ⟨#[115, 115, 100, 61, 97]⟩] 9) = wt at *
          generalize wn.heap.size = gt at *
          refine (pickL p (n + 5) 2 _ HM.out.R (by omega) (by omega) (by omega)).mono ?_
          rintro e wn ⟨u, rfl, hu, hr, hb⟩
          replace HT := Hid.intro (HT.out.bt hb HT.out.lt (by omega))
          replace HM := Hid.intro (HM.out.bt hb hr)
          clear hr hb
          obtain ⟨s, hs, hz⟩ := tabS [⟨#[115, 115, 100]⟩, ⟨#[115, 115, 100, 61, 97]⟩] u (by simp; omega) (by decide)
          have c0 : wn.cell? ⟨gt, u, none⟩ = some (.string s) := HT.out.cell hs
          have i0 : (0 : Int) ≤ (u : Int) := by omega
          have hgl : gt < wn.heap.size := HT.out.lt
          clear hs
          have hba : Below wn.heap.size wn (wn.alloc (Obj.cells #[.string s] 9)) := (Below.refl _ _).alloc (Nat.le_refl _) _
          replace HM := Hid.intro (HM.out.below hba)
          have hszA := HM.out.sz
          have hL := HM.out.L
          clear hba
          go_wp2_with (at_builtin; refine wpList_append_own_at _ rfl (.tmp 32) (.tmp 38) 26 rfl w.heap.size 9 iS _ 1 16 Tryz.underlying26 hiS hs0 hs1 hs2 rfl (by decide) _ ms.length _ rfl HM.out.O ⟨wn.heap.size, 0, none⟩ 1 1 [.string s] rfl rfl (news_str _ _ _) (oneSt _) (by unfold maxLen; omega) (by omega) hszA ?_; intro v' wn hown hgrow hnil _; have hv : v' ≠ .slice none 0 0 := (fun e => by have h9 := (hnil.1 e).1; cases h9); obtain ⟨b, c, rfl⟩ := own_slice hown hv; replace HM := Hid.intro (HM.out.app (s := s) (by omega) hown hgrow rfl); clear hown hgrow hnil hv hszA hL)
          have hlx : (ms ++ [s]).length = ms.length + 1 := by simp
          rw [← hlx]
          skip
          clear hlx
          generalize ms ++ [s] = ms at *
          clear HT c0 i0 hgl hgt hu hz
          go_ret
          exact ⟨ms, b, c, rfl, HM.out.more (by omega) (by omega)⟩
        · have v0 : ¬ (v : Int) = 0 := by omega
          have v1 : ((v : Int) == 0) = false := by simpa using hv0
          replace HM := Hid.intro (HM.out.more (Nat.le_refl _) (Nat.le_succ _))
          go_wp2_with fail
          clear v0 v1 hv0 hv
          go_ret
          exact ⟨ms, b, c, rfl, HM.out.more (by omega) (by omega)⟩
  · have v0 : ¬ (v : Int) = 0 := by omega
    have v1 : ((v : Int) == 0) = false := by simpa using hv0
    replace HM := Hid.intro (HM.out.more (Nat.le_refl _) (Nat.le_succ _))
    go_wp2_with fail
    clear v0 v1 hv0 hv
    refine (pickL p (n + 1) 3 _ HM.out.R (by omega) (by omega) (by omega)).mono ?_
    rintro e wn ⟨v, rfl, hv, hr, hb⟩
    replace HM := Hid.intro (HM.out.bt hb hr)
    clear hr hb
    by_cases hv0 : v = 0
    · subst hv0
      have hba : Below wn.heap.size wn (wn.alloc (Obj.cells #[.string (⟨#[103, 112, 117]⟩ : ByteArray)] 9)) := (Below.refl _ _).alloc (Nat.le_refl _) _
      replace HM := Hid.intro (HM.out.below hba)
      have hszA := HM.out.sz
      have hL := HM.out.L
      clear hba
      go_wp2_with (at_builtin; refine wpList_append_own_at _ rfl (.tmp 20) (.tmp 21) 26 rfl w.heap.size 9 iS _ 1 16 Tryz.underlying26 hiS hs0 hs1 hs2 rfl (by decide) _ ms.length _ rfl HM.out.O ⟨wn.heap.size, 0, none⟩ 1 1 [.string (⟨#[103, 112, 117]⟩ : ByteArray)] rfl rfl (news_str _ _ _) (oneSt _) (by unfold maxLen; omega) (by omega) hszA ?_; intro v' wn hown hgrow hnil _; have hv : v' ≠ .slice none 0 0 := (fun e => by have h9 := (hnil.1 e).1; cases h9); obtain ⟨b, c, rfl⟩ := own_slice hown hv; replace HM := Hid.intro (HM.out.app (s := (⟨#[103, 112, 117]⟩ : ByteArray)) (by decide) hown hgrow rfl); clear hown hgrow hnil hv hszA hL)
      have hlx : (ms ++ [(⟨#[103, 112, 117]⟩ : ByteArray)]).length = ms.length + 1 := by simp
      rw [← hlx]
      skip
      clear hlx
      generalize ms ++ [(⟨#[103, 112, 117]⟩ : ByteArray)] = ms at *
      refine (pickL p (n + 2) 3 _ HM.out.R (by omega) (by omega) (by omega)).mono ?_
      rintro e wn ⟨v, rfl, hv, hr, hb⟩
      replace HM := Hid.intro (HM.out.bt hb hr)
      clear hr hb
      by_cases hv0 : v = 0
      · subst hv0
        have hba : Below wn.heap.size wn (wn.alloc (Obj.cells #[.string (⟨#[111, 108, 100]⟩ : ByteArray)] 9)) := (Below.refl _ _).alloc (Nat.le_refl _) _
        replace HM := Hid.intro (HM.out.below hba)
        have hszA := HM.out.sz
        have hL := HM.out.L
        clear hba
        go_wp2_with (at_builtin; refine wpList_append_own_at _ rfl (.tmp 26) (.tmp 27) 26 rfl w.heap.size 9 iS _ 1 16 Tryz.underlying26 hiS hs0 hs1 hs2 rfl (by decide) _ ms.length _ rfl HM.out.O ⟨wn.heap.size, 0, none⟩ 1 1 [.string (⟨#[111, 108, 100]⟩ : ByteArray)] rfl rfl (news_str _ _ _) (oneSt _) (by unfold maxLen; omega) (by omega) hszA ?_; intro v' wn hown hgrow hnil _; have hv : v' ≠ .slice none 0 0 := (fun e => by have h9 := (hnil.1 e).1; cases h9); obtain ⟨b, c, rfl⟩ := own_slice hown hv; replace HM := Hid.intro (HM.out.app (s := (⟨#[111, 108, 100]⟩ : ByteArray)) (by decide) hown hgrow rfl); clear hown hgrow hnil hv hszA hL)
        have hlx : (ms ++ [(⟨#[111, 108, 100]⟩ : ByteArray)]).length = ms.length + 1 := by simp
        rw [← hlx]
        skip
        clear hlx
        generalize ms ++ [(⟨#[111, 108, 100]⟩ : ByteArray)] = ms at *
        refine (pickL p (n + 3) 2 _ HM.out.R (by omega) (by omega) (by omega)).mono ?_
        rintro e wn ⟨v, rfl, hv, hr, hb⟩
        replace HM := Hid.intro (HM.out.bt hb hr)
        clear hr hb
        by_cases hv0 : v = 0
        · subst hv0
          have hba : Below wn.heap.size wn (wn.alloc (Obj.cells #[.string ⟨#[115, 115, 100]⟩, .string ⟨#[115, 115, 100, 61, 97]⟩] 9)) := (Below.refl _ _).alloc (Nat.le_refl _) _
          have HT : Hid (Blk wn.heap.size #[.string ⟨#[115, 115, 100]⟩, .string ⟨#[115, 115, 100, 61, 97]⟩] 9 (wn.alloc (Obj.cells #[.string ⟨#[115, 115, 100]⟩, .string ⟨#[115, 115, 100, 61, 97]⟩] 9))) := Blk.alloc _ _ _
          have hgt : w.heap.size ≤ wn.heap.size := HM.out.sz
          replace HM := Hid.intro (HM.out.below hba)
          clear hba
          go_wp2_with fail
          generalize wn.alloc (Obj.cells #[.string ⟨#[115, 115, 100]⟩, .string ⟨#[115, 115, 100, 61, 97]⟩] 9) = wt at *
          generalize wn.heap.size = gt at *
          refine (pickL p (n + 4) 2 _ HM.out.R (by omega) (by omega) (by omega)).mono ?_
          rintro e wn ⟨u, rfl, hu, hr, hb⟩
          replace HT := Hid.intro (HT.out.bt hb HT.out.lt (by omega))
          replace HM := Hid.intro (HM.out.bt hb hr)
          clear hr hb
          obtain ⟨s, hs, hz⟩ := tabS [⟨#[115, 115, 100]⟩, ⟨#[115, 115, 100, 61, 97]⟩] u (by simp; omega) (by decide)
          have c0 : wn.cell? ⟨gt, u, none⟩ = some (.string s) := HT.out.cell hs
          have i0 : (0 : Int) ≤ (u : Int) := by omega
          have hgl : gt < wn.heap.size := HT.out.lt
          clear hs
          have hba : Below wn.heap.size wn (wn.alloc (Obj.cells #[.string s] 9)) := (Below.refl _ _).alloc (Nat.le_refl _) _
          replace HM := Hid.intro (HM.out.below hba)
          have hszA := HM.out.sz
          have hL := HM.out.L
          clear hba
          go_wp2_with (at_builtin; refine wpList_append_own_at _ rfl (.tmp 32) (.tmp 38) 26 rfl w.heap.size 9 iS _ 1 16 Tryz.underlying26 hiS hs0 hs1 hs2 rfl (by decide) _ ms.length _ rfl HM.out.O ⟨wn.heap.size, 0, none⟩ 1 1 [.string s] rfl rfl (news_str _ _ _) (oneSt _) (by unfold maxLen; omega) (by omega) hszA ?_; intro v' wn hown hgrow hnil _; have hv : v' ≠ .slice none 0 0 := (fun e => by have h9 := (hnil.1 e).1; cases h9); obtain ⟨b, c, rfl⟩ := own_slice hown hv; replace HM := Hid.intro (HM.out.app (s := s) (by omega) hown hgrow rfl); clear hown hgrow hnil hv hszA hL)
          have hlx : (ms ++ [s]).length = ms.length + 1 := by simp
          rw [← hlx]
          skip
          clear hlx
          generalize ms ++ [s] = ms at *
          clear HT c0 i0 hgl hgt hu hz
          go_ret
          exact ⟨ms, b, c, rfl, HM.out.more (by omega) (by omega)⟩
        · have v0 : ¬ (v : Int) = 0 := by omega
          have v1 : ((v : Int) == 0) = false := by simpa using hv0
          replace HM := Hid.intro (HM.out.more (Nat.le_refl _) (Nat.le_succ _))
          go_wp2_with fail
          clear v0 v1 hv0 hv
          go_ret
          exact ⟨ms, b, c, rfl, HM.out.more (by omega) (by omega)⟩
      · have v0 : ¬ (v : Int) = 0 := by omega
        have v1 : ((v : Int) == 0) = false := by simpa using hv0
        replace HM := Hid.intro (HM.out.more (Nat.le_refl _) (Nat.le_succ _))
        go_wp2_with fail
        clear v0 v1 hv0 hv
        refine (pickL p (n + 3) 2 _ HM.out.R (by omega) (by omega) (by omega)).mono ?_
        rintro e wn ⟨v, rfl, hv, hr, hb⟩
        replace HM := Hid.intro (HM.out.bt hb hr)
        clear hr hb
        by_cases hv0 : v = 0
        · subst hv0
          have hba : Below wn.heap.size wn (wn.alloc (Obj.cells #[.string ⟨#[115, 115, 100]⟩, .string ⟨#[115, 115, 100, 61, 97]⟩] 9)) := (Below.refl _ _).alloc (Nat.le_refl _) _
          have HT : Hid (Blk wn.heap.size #[.string ⟨#[115, 115, 100]⟩, .string ⟨#[115, 115, 100, 61, 97]⟩] 9 (wn.alloc (Obj.cells #[.string ⟨#[115, 115, 100]⟩, .string ⟨#[115, 115, 100, 61, 97]⟩] 9))) := Blk.alloc _ _ _
          have hgt : w.heap.size ≤ wn.heap.size := HM.out.sz
          replace HM := Hid.intro (HM.out.below hba)
          clear hba
          go_wp2_with fail
          generalize wn.alloc (Obj.cells #[.string ⟨#[115, 115, 100]⟩, .string ⟨#[115, 115, 100, 61, 97]⟩] 9) = wt at *
          generalize wn.heap.size = gt at *
          refine (pickL p (n + 4) 2 _ HM.out.R (by omega) (by omega) (by omega)).mono ?_
          rintro e wn ⟨u, rfl, hu, hr, hb⟩
          replace HT := Hid.intro (HT.out.bt hb HT.out.lt (by omega))
          replace HM := Hid.intro (HM.out.bt hb hr)
          clear hr hb
          obtain ⟨s, hs, hz⟩ := tabS [⟨#[115, 115, 100]⟩, ⟨#[115, 115, 100, 61, 97]⟩] u (by simp; omega) (by decide)
          have c0 : wn.cell? ⟨gt, u, none⟩ = some (.string s) := HT.out.cell hs
          have i0 : (0 : Int) ≤ (u : Int) := by omega
          have hgl : gt < wn.heap.size := HT.out.lt
          clear hs
          have hba : Below wn.heap.size wn (wn.alloc (Obj.cells #[.string s] 9)) := (Below.refl _ _).alloc (Nat.le_refl _) _
          replace HM := Hid.intro (HM.out.below hba)
          have hszA := HM.out.sz
          have hL := HM.out.L
          clear hba
          go_wp2_with (at_builtin; refine wpList_append_own_at _ rfl (.tmp 32) (.tmp 38) 26 rfl w.heap.size 9 iS _ 1 16 Tryz.underlying26 hiS hs0 hs1 hs2 rfl (by decide) _ ms.length _ rfl HM.out.O ⟨wn.heap.size, 0, none⟩ 1 1 [.string s] rfl rfl (news_str _ _ _) (oneSt _) (by unfold maxLen; omega) (by omega) hszA ?_; intro v' wn hown hgrow hnil _; have hv : v' ≠ .slice none 0 0 := (fun e => by have h9 := (hnil.1 e).1; cases h9); obtain ⟨b, c, rfl⟩ := own_slice hown hv; replace HM := Hid.intro (HM.out.app (s := s) (by omega) hown hgrow rfl); clear hown hgrow hnil hv hszA hL)
          have hlx : (ms ++ [s]).length = ms.length + 1 := by simp
          rw [← hlx]
          skip
          clear hlx
          generalize ms ++ [s] = ms at *
          clear HT c0 i0 hgl hgt hu hz
          go_ret
          exact ⟨ms, b, c, rfl, HM.out.more (by omega) (by omega)⟩
        · have v0 : ¬ (v : Int) = 0 := by omega
          have v1 : ((v : Int) == 0) = false := by simpa using hv0
          replace HM := Hid.intro (HM.out.more (Nat.le_refl _) (Nat.le_succ _))
          go_wp2_with fail
          clear v0 v1 hv0 hv
          go_ret
          exact ⟨ms, b, c, rfl, HM.out.more (by omega) (by omega)⟩
    · have v0 : ¬ (v : Int) = 0 := by omega
      have v1 : ((v : Int) == 0) = false := by simpa using hv0
      replace HM := Hid.intro (HM.out.more (Nat.le_refl _) (Nat.le_succ _))
      go_wp2_with fail
      clear v0 v1 hv0 hv
      refine (pickL p (n + 2) 3 _ HM.out.R (by omega) (by omega) (by omega)).mono ?_
      rintro e wn ⟨v, rfl, hv, hr, hb⟩
      replace HM := Hid.intro (HM.out.bt hb hr)
      clear hr hb
      by_cases hv0 : v = 0
      · subst hv0
        have hba : Below wn.heap.size wn (wn.alloc (Obj.cells #[.string (⟨#[111, 108, 100]⟩ : ByteArray)] 9)) := (Below.refl _ _).alloc (Nat.le_refl _) _
        replace HM := Hid.intro (HM.out.below hba)
        have hszA := HM.out.sz
        have hL := HM.out.L
        clear hba
        go_wp2_with (at_builtin; refine wpList_append_own_at _ rfl (.tmp 26) (.tmp 27) 26 rfl w.heap.size 9 iS _ 1 16 Tryz.underlying26 hiS hs0 hs1 hs2 rfl (by decide) _ ms.length _ rfl HM.out.O ⟨wn.heap.size, 0, none⟩ 1 1 [.string (⟨#[111, 108, 100]⟩ : ByteArray)] rfl rfl (news_str _ _ _) (oneSt _) (by unfold maxLen; omega) (by omega) hszA ?_; intro v' wn hown hgrow hnil _; have hv : v' ≠ .slice none 0 0 := (fun e => by have h9 := (hnil.1 e).1; cases h9); obtain ⟨b, c, rfl⟩ := own_slice hown hv; replace HM := Hid.intro (HM.out.app (s := (⟨#[111, 108, 100]⟩ : ByteArray)) (by decide) hown hgrow rfl); clear hown hgrow hnil hv hszA hL)
        have hlx : (ms ++ [(⟨#[111, 108, 100]⟩ : ByteArray)]).length = ms.length + 1 := by simp
        rw [← hlx]
        skip
        clear hlx
        generalize ms ++ [(⟨#[111, 108, 100]⟩ : ByteArray)] = ms at *
        refine (pickL p (n + 3) 2 _ HM.out.R (by omega) (by omega) (by omega)).mono ?_
        rintro e wn ⟨v, rfl, hv, hr, hb⟩
        replace HM := Hid.intro (HM.out.bt hb hr)
        clear hr hb
        by_cases hv0 : v = 0
        · subst hv0
          have hba : Below wn.heap.size wn (wn.alloc (Obj.cells #[.string ⟨#[115, 115, 100]⟩, .string ⟨#[115, 115, 100, 61, 97]⟩] 9)) := (Below.refl _ _).alloc (Nat.le_refl _) _
          have HT : Hid (Blk wn.heap.size #[.string ⟨#[115, 115, 100]⟩, .string ⟨#[115, 115, 100, 61, 97]⟩] 9 (wn.alloc (Obj.cells #[.string ⟨#[115, 115, 100]⟩, .string ⟨#[115, 115, 100, 61, 97]⟩] 9))) := Blk.alloc _ _ _
          have hgt : w.heap.size ≤ wn.heap.size := HM.out.sz
          replace HM := Hid.intro (HM.out.below hba)
          clear hba
          go_wp2_with fail
          generalize wn.alloc (Obj.cells #[.string ⟨#[115, 115, 100]⟩, .string ⟨#[115, 115, 100, 61, 97]⟩] 9) = wt at *
          generalize wn.heap.size = gt at *
          refine (pickL p (n + 4) 2 _ HM.out.R (by omega) (by omega) (by omega)).mono ?_
          rintro e wn ⟨u, rfl, hu, hr, hb⟩
          replace HT := Hid.intro (HT.out.bt hb HT.out.lt (by omega))
          replace HM := Hid.intro (HM.out.bt hb hr)
          clear hr hb
          obtain ⟨s, hs, hz⟩ := tabS [⟨#[115, 115, 100]⟩, ⟨#[115, 115, 100, 61, 97]⟩] u (by simp; omega) (by decide)
          have c0 : wn.cell? ⟨gt, u, none⟩ = some (.string s) := HT.out.cell hs
          have i0 : (0 : Int) ≤ (u : Int) := by omega
          have hgl : gt < wn.heap.size := HT.out.lt
          clear hs
          have hba : Below wn.heap.size wn (wn.alloc (Obj.cells #[.string s] 9)) := (Below.refl _ _).alloc (Nat.le_refl _) _
          replace HM := Hid.intro (HM.out.below hba)
          have hszA := HM.out.sz
          have hL := HM.out.L
          clear hba
          go_wp2_with (at_builtin; refine wpList_append_own_at _ rfl (.tmp 32) (.tmp 38) 26 rfl w.heap.size 9 iS _ 1 16 Tryz.underlying26 hiS hs0 hs1 hs2 rfl (by decide) _ ms.length _ rfl HM.out.O ⟨wn.heap.size, 0, none⟩ 1 1 [.string s] rfl rfl (news_str _ _ _) (oneSt _) (by unfold maxLen; omega) (by omega) hszA ?_; intro v' wn hown hgrow hnil _; have hv : v' ≠ .slice none 0 0 := (fun e => by have h9 := (hnil.1 e).1; cases h9); obtain ⟨b, c, rfl⟩ := own_slice hown hv; replace HM := Hid.intro (HM.out.app (s := s) (by omega) hown hgrow rfl); clear hown hgrow hnil hv hszA hL)
          have hlx : (ms ++ [s]).length = ms.length + 1 := by simp
          rw [← hlx]
          skip
          clear hlx
          generalize ms ++ [s] = ms at *
          clear HT c0 i0 hgl hgt hu hz
          go_ret
          exact ⟨ms, b, c, rfl, HM.out.more (by omega) (by omega)⟩
        · have v0 : ¬ (v : Int) = 0 := by omega
          have v1 : ((v : Int) == 0) = false := by simpa using hv0
          replace HM := Hid.intro (HM.out.more (Nat.le_refl _) (Nat.le_succ _))
          go_wp2_with fail
          clear v0 v1 hv0 hv
          go_ret
          exact ⟨ms, b, c, rfl, HM.out.more (by omega) (by omega)⟩
      · have v0 : ¬ (v : Int) = 0 := by omega
        have v1 : ((v : Int) == 0) = false := by simpa using hv0
        replace HM := Hid.intro (HM.out.more (Nat.le_refl _) (Nat.le_succ _))
        go_wp2_with fail
        clear v0 v1 hv0 hv
        refine (pickL p (n + 3) 2 _ HM.out.R (by omega) (by omega) (by omega)).mono ?_
        rintro e wn ⟨v, rfl, hv, hr, hb⟩
        replace HM := Hid.intro (HM.out.bt hb hr)
        clear hr hb
        by_cases hv0 : v = 0
        · subst hv0
          have hba : Below wn.heap.size wn (wn.alloc (Obj.cells #[.string ⟨#[115, 115, 100]⟩, .string ⟨#[115, 115, 100, 61, 97]⟩] 9)) := (Below.refl _ _).alloc (Nat.le_refl _) _
          have HT : Hid (Blk wn.heap.size #[.string ⟨#[115, 115, 100]⟩, .string ⟨#[115, 115, 100, 61, 97]⟩] 9 (wn.alloc (Obj.cells #[.string ⟨#[115, 115, 100]⟩, .string ⟨#[115, 115, 100, 61, 97]⟩] 9))) := Blk.alloc _ _ _
          have hgt : w.heap.size ≤ wn.heap.size := HM.out.sz
          replace HM := Hid.intro (HM.out.below hba)
          clear hba
          go_wp2_with fail
          generalize wn.alloc (Obj.cells #[.string ⟨#[115, 115, 100]⟩, .string ⟨#[115, 115, 100, 61, 97]⟩] 9) = wt at *
          generalize wn.heap.size = gt at *
          refine (pickL p (n + 4) 2 _ HM.out.R (by omega) (by omega) (by omega)).mono ?_
          rintro e wn ⟨u, rfl, hu, hr, hb⟩
          replace HT := Hid.intro (HT.out.bt hb HT.out.lt (by omega))
          replace HM := Hid.intro (HM.out.bt hb hr)
          clear hr hb
          obtain ⟨s, hs, hz⟩ := tabS [⟨#[115, 115, 100]⟩, ⟨#[115, 115, 100, 61, 97]⟩] u (by simp; omega) (by decide)
          have c0 : wn.cell? ⟨gt, u, none⟩ = some (.string s) := HT.out.cell hs
          have i0 : (0 : Int) ≤ (u : Int) := by omega
          have hgl : gt < wn.heap.size := HT.out.lt
          clear hs
          have hba : Below wn.heap.size wn (wn.alloc (Obj.cells #[.string s] 9)) := (Below.refl _ _).alloc (Nat.le_refl _) _
          replace HM := Hid.intro (HM.out.below hba)
          have hszA := HM.out.sz
          have hL := HM.out.L
          clear hba
          go_wp2_with (at_builtin; refine wpList_append_own_at _ rfl (.tmp 32) (.tmp 38) 26 rfl w.heap.size 9 iS _ 1 16 Tryz.underlying26 hiS hs0 hs1 hs2 rfl (by decide) _ ms.length _ rfl HM.out.O ⟨wn.heap.size, 0, none⟩ 1 1 [.string s] rfl rfl (news_str _ _ _) (oneSt _) (by unfold maxLen; omega) (by omega) hszA ?_; intro v' wn hown hgrow hnil _; have hv : v' ≠ .slice none 0 0 := (fun e => by have h9 := (hnil.1 e).1; cases h9); obtain ⟨b, c, rfl⟩ := own_slice hown hv; replace HM := Hid.intro (HM.out.app (s := s) (by omega) hown hgrow rfl); clear hown hgrow hnil hv hszA hL)
          have hlx : (ms ++ [s]).length = ms.length + 1 := by simp
          rw [← hlx]
          skip
          clear hlx
          generalize ms ++ [s] = ms at *
          clear HT c0 i0 hgl hgt hu hz
          go_ret
          exact ⟨ms, b, c, rfl, HM.out.more (by omega) (by omega)⟩
        · have v0 : ¬ (v : Int) = 0 := by omega
          have v1 : ((v : Int) == 0) = false := by simpa using hv0
          replace HM := Hid.intro (HM.out.more (Nat.le_refl _) (Nat.le_succ _))
          go_wp2_with fail
          clear v0 v1 hv0 hv
          go_ret
          exact ⟨ms, b, c, rfl, HM.out.more (by omega) (by omega)⟩

end Go.Proofs.YthjicahpfhjfdaaGreatDoor
