/-
  Several texts in one: VlR, VlH.
-/
import Derived.Test.YthjicahpfhjfdaaGreatDoorJ15
import Derived.Test.YthjicahpfhjfdaaGreatDoorJ14
import Derived.WalkSmall
namespace Go.Proofs.YthjicahpfhjfdaaGreatDoor
open Go.RowKit

theorem runK_append : ∀ (a b : List P.Nd) (i : Nat) (out : List (List Nat)) (st : List Nat), P.runK (a ++ b) i out st = (P.runK a i out st).bind fun p => P.runK b (i + a.length) p.1 p.2
  | [], b, i, out, st => rfl
  | n :: a, b, i, out, st => by
    rw [List.cons_append, P.runK, P.runK]
    cases P.stepK i n.kids st with
    | none => rfl
    | some p =>
      obtain ⟨ks, st'⟩ := p
      simp only
      rw [runK_append a b (i + 1) (out ++ [ks]) st', show i + 1 + a.length = i + (n :: a).length by simp only [List.length_cons]; omega]

theorem runK_next {ns : List P.Nd} {k : Nat} {n : P.Nd} {out : List (List Nat)} {st : List Nat} (h : P.runK (ns.take k) 0 [] [] = some (out, st)) (hn : ns[k]? = some n) :
    P.runK (ns.take (k + 1)) 0 [] [] = (match P.stepK k n.kids st with | none => none | some (ks, st') => some (out ++ [ks], st')) := by
  have hl := P.getElem?_lt hn
  have e : ns.take (k + 1) = ns.take k ++ [n] := by rw [List.take_add_one, hn]; rfl
  have e2 : 0 + (ns.take k).length = k := by simp; omega
  rw [e, runK_append, h]
  simp only [Option.bind_some, e2]
  unfold P.runK
  cases P.stepK k n.kids st with
  | none => rfl
  | some p => rfl

theorem kidsOf_stop {ns : List P.Nd} {k : Nat} {n : P.Nd} {out : List (List Nat)} {st : List Nat} (h : P.runK (ns.take k) 0 [] [] = some (out, st)) (hn : ns[k]? = some n) (hs : P.stepK k n.kids st = none) : P.kidsOf ns = none := by
  have e : ns = ns.take (k + 1) ++ ns.drop (k + 1) := (List.take_append_drop _ _).symm
  unfold P.kidsOf
  rw [e, runK_append, runK_next h hn, hs]; rfl

theorem no_news {l : List Nat} {c : Nat} (h : l.length = c) (h0 : c = 0) (ad : Addr) (w : World) : ∀ j u, (ints l)[j]? = some u → w.cell? (ad.add j) = some u := by
  intro j u hj
  have := P.getElem?_lt hj
  simp [ints] at this
  omega

theorem one_slice (a : Option Addr) (n c : Nat) : ∀ u ∈ [Value.slice a n c], u.oneCell' = true := by
  intro u hu
  simp at hu
  subst hu
  rfl

theorem one_int (k : Int) : ∀ u ∈ [Value.int .i64 k], u.oneCell' = true := by
  intro u hu
  simp at hu
  subst hu
  rfl

theorem buf_some {w : World} {B n : Nat} {e : TypeId} {v : Value} {xs : List Value} (h : w.ownsRow B e 1 v n xs) (hn : 0 < n) : ∃ g cap, v = .slice (some ⟨g, 0, none⟩) n cap := by
  rcases h.2 with ⟨rfl, rfl⟩ | ⟨g, cap, cur, rfl, _⟩
  · omega
  · exact ⟨_, _, rfl⟩

theorem own_apart {w : World} {B n gs cs go : Nat} {xs : List Value} {cgo : Array Value} {fz : Nat × Nat} (h : w.ownsRow B 3 1 (.slice (some ⟨gs, 0, none⟩) n cs) n xs) (hgo : w.heap[go]? = some (.cells cgo 95 fz)) : gs ≠ go := by
  intro e
  rcases h.2 with ⟨h', _⟩ | ⟨g', _, cur, h', _, hh, _⟩
  · simp at h'
  · simp at h'
    obtain ⟨rfl, _⟩ := h'
    rw [e, hgo] at hh
    simp at hh

theorem row_of {w : World} {B n go co : Nat} {e : TypeId} {xs : List Value} (h : w.ownsRow B e 1 (.slice (some ⟨go, 0, none⟩) n co) n xs) : ∃ cgo, w.heap[go]? = some (.cells cgo e (0, 0)) := by
  rcases h.2 with ⟨h', _⟩ | ⟨g', _, cur, h', _, hh, _⟩
  · simp at h'
  · simp at h'
    obtain ⟨rfl, _⟩ := h'
    exact ⟨cur, hh⟩

theorem first_step {wr w1 : World} {B k co m cs go gs : Nat} {xs ys : List Value} {E : Obj} {row : Option Nat} (hO : wr.ownsRow B 95 1 (.slice (some ⟨go, 0, none⟩) k co) k xs) (hS : wr.ownsRow B 3 1 (.slice (some ⟨gs, 0, none⟩) m cs) m ys)
    (hg : (wr.alloc E).grownBy w1 row) (hr : row = some wr.heap.size := by rfl) : w1.ownsRow B 95 1 (.slice (some ⟨go, 0, none⟩) k co) k xs ∧ w1.ownsRow B 3 1 (.slice (some ⟨gs, 0, none⟩) m cs) m ys ∧ wr.heap.size + 1 ≤ w1.heap.size ∧ B ≤ w1.heap.size := by
  subst hr
  have h1 := (hO.lt go rfl)
  have h2 := (hS.lt gs rfl)
  have hz := hg.size
  simp at hz
  refine ⟨(hO.alloc E).kept hg (.inr ?_), (hS.alloc E).kept hg (.inr ?_), hz, by omega⟩
  · simp only [Value.ownBlock]
    intro e
    have := Option.some.inj e
    omega
  · simp only [Value.ownBlock]
    intro e
    have := Option.some.inj e
    omega

theorem second_step {w1 w2 : World} {B m cs go gs : Nat} {ys : List Value} {o : Obj} {row : Option Nat} (hS : w1.ownsRow B 3 1 (.slice (some ⟨gs, 0, none⟩) m cs) m ys) (hne : gs ≠ go)
    (hg : (w1.alloc o).grownBy w2 row) (hr : row = some go := by rfl) : w2.ownsRow B 3 1 (.slice (some ⟨gs, 0, none⟩) m cs) m ys ∧ w1.heap.size + 1 ≤ w2.heap.size := by
  subst hr
  have hz := hg.size
  simp at hz
  refine ⟨(hS.alloc o).kept hg (.inr ?_), hz⟩
  simp only [Value.ownBlock]
  intro e
  exact hne (Option.some.inj e)

/-- what l1Kids promises -/
def KidsEnd (ns : List P.Nd) (w : World) (e : Ending) (w' : World) : Prop :=
  Below w.heap.size w w' ∧ match P.kidsOf ns with
  | none => ∃ v, e = .returned (.tuple #[v, .bool false])
  | some (out, st) => ∃ go co, e = .returned (.tuple #[.slice (some ⟨go, 0, none⟩) ns.length co, .bool (decide (st.length = 1))]) ∧ KidsIn w' go out ∧ out.length = ns.length

set_option maxHeartbeats 8000000 in
set_option maxRecDepth 100000 in
theorem kids_any (ns : List P.Nd) (g cn : Nat) (w : World) (hN : Nodes0 w g ns) (hlen : ns.length ≤ 400) :
    Calls Tryz.prog 20 #[.agg #[.slice (some ⟨g, 0, none⟩) ns.length cn]] w fun e w' => KidsEnd ns w e w' := by
  obtain ⟨i3, hi3, y0, y1, y2⟩ := info_parts info_int
  obtain ⟨i6, hi6, z0, z1, z2⟩ := info_parts info_ints
  have HN : Hid (Nodes0 w g ns) := hN
  clear hN
  go_enter Tryz.func20, Tryz.ntmps20
  go_wp2_with fail
  generalize hW0 : w.alloc (.cells #[.slice (some ⟨g, 0, none⟩) ns.length cn] 25) = W0
  have hz0 : W0.heap.size = w.heap.size + 1 := by rw [← hW0]; simp
  have hB0 : Below w.heap.size w W0 := by rw [← hW0]; exact (Below.refl _ _).alloc (Nat.le_refl _) _
  have hc0 : W0.cell? ⟨w.heap.size, 0, none⟩ = some (.slice (some ⟨g, 0, none⟩) ns.length cn) := by rw [← hW0]; simp
  have HN0 : Hid (Nodes0 W0 g ns) := HN.out.grown hB0
  clear hW0
  go_loopw [4, 5, 6] (fun vo vs i wr => ∃ (k m gs cs go co : Nat) (out : List (List Nat)) (st : List Nat) (xs : List Value), k ≤ ns.length ∧ i = .int .i64 k ∧ m ≤ k ∧ vo = .slice (some ⟨go, 0, none⟩) k co ∧ vs = .slice (some ⟨gs, 0, none⟩) m cs ∧
      Hid (P.runK (ns.take k) 0 [] [] = some (out, st) ∧ out.length = k ∧ st.length = m) ∧ wr.ownsRow W0.heap.size 95 1 vo k xs ∧ wr.ownsRow W0.heap.size 3 1 vs m (ints st) ∧ KidsFam wr gs xs out ∧ Below W0.heap.size W0 wr) (fun _ _ i _ => ns.length - (intOf i).toNat)
  case atStart =>
    refine ⟨0, 0, _, 0, _, 0, [], [], [], Nat.zero_le _, rfl, Nat.le_refl _, rfl, rfl, ⟨by rw [List.take_zero]; rfl, rfl, rfl⟩, ?_, ?_, ⟨rfl, fun j ks h => by simp at h⟩, ?_⟩
    · have h1 := World.ownsRow_made (base := W0.heap.size) (e := 95) (size := 1) W0 #[] 0 (Nat.le_refl _) (Nat.zero_le _) rfl
      have h2 := h1.alloc (.cells #[] 3)
      rw [hz0] at h2 ⊢
      exact h2
    · have h1 := World.ownsRow_made (base := W0.heap.size) (e := 3) (size := 1) (W0.alloc (.cells #[] 95)) #[] 0 (by simp) (Nat.zero_le _) rfl
      simp only [World.size_alloc, hz0] at h1 ⊢
      exact h1
    · exact ((Below.refl _ _).alloc (Nat.le_refl _) _).alloc (by simp) _
  case round =>
    obtain ⟨k, m, gs, cs, go, co, out, st, xs, hk, rfl, hmk, rfl, rfl, hrun, hown, hsown, hfam, hbel⟩ := hrel
    have cx : wr.cell? ⟨w.heap.size, 0, none⟩ = some (.slice (some ⟨g, 0, none⟩) ns.length cn) := (hbel.cell (p := ⟨w.heap.size, 0, none⟩) (by show w.heap.size < W0.heap.size; omega)).trans hc0
    have HO : Hid (wr.ownsRow W0.heap.size 95 1 (.slice (some ⟨go, 0, none⟩) k co) k xs) := hown
    have HSO : Hid (wr.ownsRow W0.heap.size 3 1 (.slice (some ⟨gs, 0, none⟩) m cs) m (ints st)) := hsown
    have HF : Hid (KidsFam wr gs xs out) := hfam
    have hcs : m ≤ cs := by
      rcases hsown.2 with ⟨h, _⟩ | ⟨_, _, _, h, _, _, h4, _⟩
      · simp at h
      · simp at h; omega
    clear hown hsown hfam
    by_cases hlt : k < ns.length
    · obtain ⟨n, hn⟩ : ∃ n, ns[k]? = some n := ⟨ns[k], List.getElem?_eq_getElem hlt⟩
      obtain ⟨_, _, _, r3⟩ := (HN0.out.grown hbel).2 k n hn
      have HK : Hid (ns[k]? = some n) := hn
      have hml := hrun.out.2.2
      clear hn
      rcases (show n.kids < 0 ∨ (m : Int) < n.kids ∨ (0 ≤ n.kids ∧ n.kids ≤ m) by omega) with hneg | hpos | ⟨hin1, hin2⟩
      · have HE : Hid (P.kidsOf ns = none) := kidsOf_stop hrun.out.1 HK.out (by unfold P.stepK; rw [if_pos (.inl hneg)])
        clear hml
        go_wp2_with fail
        go_ret2
        refine ⟨hB0.trans (hbel.mono (by omega)), ?_⟩
        rw [HE.out]
        exact ⟨_, rfl⟩
      · have HE : Hid (P.kidsOf ns = none) := kidsOf_stop hrun.out.1 HK.out (by unfold P.stepK; rw [if_pos (.inr (by rw [hml]; exact hpos))])
        clear hml
        go_wp2_with fail
        go_ret2
        refine ⟨hB0.trans (hbel.mono (by omega)), ?_⟩
        rw [HE.out]
        exact ⟨_, rfl⟩
      · obtain ⟨c, hc⟩ := Int.eq_ofNat_of_zero_le hin1
        obtain ⟨r, rfl⟩ : ∃ r, m = r + c := ⟨m - c, by omega⟩
        have HR : Hid (P.runK (ns.take (k + 1)) 0 [] [] = some (out ++ [st.drop r], st.take r ++ [k])) := by
          show _ = _
          rw [runK_next hrun.out.1 HK.out]
          unfold P.stepK
          rw [if_neg (by rw [hml]; omega)]
          have : st.length - n.kids.toNat = r := by omega
          rw [this]
        have hdl : (st.drop r).length = c := by rw [List.length_drop, hml]; omega
        have HDL : Hid ((st.drop r).length = c) := hdl
        have hgsl := (HSO.out.lt gs rfl).2
        obtain ⟨cgo, hgo⟩ : ∃ cgo, wr.heap[go]? = some (.cells cgo 95 (0, 0)) := by
          rcases HO.out.2 with ⟨h, _⟩ | ⟨g', _, cur, h, _, hh, _⟩
          · simp at h
          · simp at h
            obtain ⟨rfl, _⟩ := h
            exact ⟨cur, hh⟩
        have HGO : Hid (wr.heap[go]? = some (.cells cgo 95 (0, 0))) := hgo
        have newsA : ∀ j u, (ints (st.drop r))[j]? = some u → (wr.alloc (.cells #[] 3)).cell? ((⟨gs, r, none⟩ : Addr).add j) = some u := by
          intro j u hj
          have hjl := P.getElem?_lt hj
          have h := (HSO.out.alloc (.cells #[] 3)).cellAt (r + j) (by simp [ints] at hjl; omega)
          have ea : ((⟨gs, r, none⟩ : Addr).add j) = ⟨gs, r + j, none⟩ := by cases j <;> simp [Addr.add]
          rw [ea, h]
          simp only [ints, List.getElem?_map, List.getElem?_drop] at hj ⊢
          exact hj
        have NA : Hid (∀ j u, (ints (st.drop r))[j]? = some u → (wr.alloc (.cells #[] 3)).cell? ((⟨gs, r, none⟩ : Addr).add j) = some u) := newsA
        have ON : Hid (∀ u ∈ ints (st.drop r), u.oneCell' = true) := by
          intro u hu
          simp only [ints, List.mem_map] at hu
          obtain ⟨x, _, rfl⟩ := hu
          rfl
        have hbs := hbel.size
        rw [hc] at r3
        have j0 : (0 : Int) ≤ (r : Int) := by omega
        have j1 : (r : Int) ≤ (r : Int) + (c : Int) := by omega
        have j2 : (r : Int) + (c : Int) ≤ (cs : Int) := by omega
        clear hin1 hin2 hc hml hdl newsA hgo
        rcases (show ¬ c = 0 ∨ (c = 0 ∧ r = cs) ∨ (c = 0 ∧ ¬ cs = r) by omega) with c0 | ⟨c0, hcr⟩ | ⟨c0, hcr⟩
        all_goals first
          | (have HC0 : Hid (c = 0) := c0
             clear c0
             try (subst hcr; clear hcs j2))
          | (have HC0 : Hid True := trivial
             have hcr : ¬ cs = r := by omega)
        all_goals
          have hgne : gs ≠ go := own_apart HSO.out HGO.out
          have hgol := lt_of_heap HGO.out
          go_wp2_with (first
            | (at_builtin; refine wpList_append_own_at _ rfl (.tmp 33) (.tmp 39) 95 rfl W0.heap.size 3 i3 (.int .i64 0) 1 8 Tryz.underlying95 hi3 y0 y1 y2 rfl (by decide) _ 0 [] rfl (World.ownsRow_made (base := W0.heap.size) (e := 3) (size := 1) wr #[] 0 hbs (Nat.zero_le _) rfl) _ c _ (ints (st.drop r)) rfl (by simp only [ints, List.length_map, Nat.mul_one]; exact HDL.out) (by first | exact NA.out | exact no_news HDL.out HC0.out _ _) ON.out (by unfold maxLen; omega) (by omega) (by simp; omega) ?_; intro v1 w1 hown1 hg1 _ hat1; simp only [Nat.zero_add, List.nil_append] at hown1; obtain ⟨a1, c1, hv1⟩ := buf_shape hown1; rw [hv1]; obtain ⟨hO1, hS1, hs1, hz1⟩ := first_step HO.out HSO.out hg1)
            | (at_builtin; refine wpList_append_own_at _ rfl (.tmp 32) (.tmp 41) 56 rfl W0.heap.size 95 i6 (.slice none 0 0) 1 24 Tryz.underlying56 hi6 z0 z1 z2 rfl (by decide) _ k xs rfl (hO1.alloc _) ⟨w1.heap.size, 0, none⟩ 1 1 [.slice a1 c c1] rfl rfl (news_oneV _ _ _) (one_slice _ _ _) (by unfold maxLen; omega) (by omega) (by simp; omega) ?_; intro vo2 w2 hown2 hg2 _ _; obtain ⟨go2, co2, hv2⟩ := buf_some hown2 (by omega); rw [hv2]; obtain ⟨hS2, hs2⟩ := second_step hS1 hgne hg2)
            | (at_builtin; refine wpList_append_own_at _ rfl (.tmp 48) (.tmp 50) 95 rfl W0.heap.size 3 i3 (.int .i64 0) 1 8 Tryz.underlying95 hi3 y0 y1 y2 rfl (by decide) _ r _ rfl ((ownsRow_cut hS2 r (Nat.le_add_right _ _)).alloc _) ⟨w2.heap.size, 0, none⟩ 1 1 [.int .i64 (k : Int)] rfl rfl (news_oneV _ _ _) (one_int _) (by unfold maxLen; omega) (by omega) (by simp; omega) ?_; intro vs3 w3 hown3 hg3 _ hat3; obtain ⟨gs3, cs3, hv3⟩ := buf_some hown3 (by omega); rw [hv3]))
          go_roundw
          case rel =>
            have g1 : (wr.alloc (.cells #[] 3)).grownBy w1 (some wr.heap.size) := hg1
            have t1 : v1.ownBlock = some wr.heap.size ∨ v1.ownBlock = some (wr.alloc (.cells #[] 3)).heap.size := hat1
            have g2 : (w1.alloc (.cells #[.slice a1 c c1] 95)).grownBy w2 (some go) := hg2
            have g3 : (w2.alloc (.cells #[.int .i64 (k : Int)] 3)).grownBy w3 (some gs) := hg3
            have t3 : vs3.ownBlock = some gs ∨ vs3.ownBlock = some (w2.alloc (.cells #[.int .i64 (k : Int)] 3)).heap.size := hat3
            rw [hv3] at t3
            simp only [Value.ownBlock, Option.some.injEq] at t3
            have fam := kids_step HF.out g1 hown1 HDL.out t1 g2 HGO.out g3 hgsl t3
            rw [hv1] at fam
            rw [hv2] at hown2
            rw [hv3] at hown3
            obtain ⟨cg2, hcg2⟩ := row_of hown2
            have hne2 : gs ≠ go2 := own_apart hS2 hcg2
            have own2 := (hown2.alloc (.cells #[.int .i64 (k : Int)] 3)).kept g3 (.inr (by simp only [Value.ownBlock]; intro e; exact hne2 (Option.some.inj e).symm))
            have hgo1 := (HO.out.lt go rfl).1
            have hgs1 := (HSO.out.lt gs rfl).1
            have b1 := (hbel.alloc hbs (.cells #[] 3)).grown g1 (by simp; omega) (fun j hj => by have := Option.some.inj hj; omega)
            have b2 := (b1.alloc (by omega) (.cells #[.slice a1 c c1] 95)).grown g2 (by simp; omega) (fun j hj => by have := Option.some.inj hj; omega)
            have b3 := (b2.alloc (by omega) (.cells #[.int .i64 (k : Int)] 3)).grown g3 (by simp; omega) (fun j hj => by have := Option.some.inj hj; omega)
            refine ⟨k + 1, r + 1, gs3, cs3, go2, co2, out ++ [st.drop r], st.take r ++ [k], xs ++ [.slice a1 c c1], by omega, by go_num, by omega, rfl, rfl, ⟨HR.out, ?_, ?_⟩, own2, ?_, ?_, b3⟩
            · simp [hrun.out.2.1]
            · have := hrun.out.2.2
              simp; omega
            · have e : ints (st.take r ++ [k]) = (ints st).take r ++ [.int .i64 (k : Int)] := by simp [ints, List.map_take]
              rw [e]
              exact hown3
            · exact fam
          case measure => simp [intOf]; omega
    · have hke : k = ns.length := by omega
      have HE : Hid (P.kidsOf ns = some (out, st)) := by
        have h := hrun.out.1
        rw [hke, List.take_length] at h
        exact h
      have HL : Hid (out.length = ns.length ∧ st.length = m) := ⟨by rw [← hke]; exact hrun.out.2.1, hrun.out.2.2⟩
      subst hke
      by_cases hm1 : m = 1
      · have j1 : ((m : Int) == 1) = true := by rw [beq_iff_eq]; omega
        have HD : Hid (decide (st.length = 1) = true) := by show _ = _; rw [HL.out.2]; simp [hm1]
        clear hm1
        go_wp2_with fail
        go_ret2
        refine ⟨hB0.trans (hbel.mono (by omega)), ?_⟩
        rw [HE.out]
        refine ⟨go, co, ?_, kidsIn_of HF.out HO.out, HL.out.1⟩
        rw [HD.out]
        rfl
      · have j1 : ((m : Int) == 1) = false := by rw [beq_eq_false_iff_ne]; omega
        have HD : Hid (decide (st.length = 1) = false) := by show _ = _; rw [HL.out.2]; simp [hm1]
        clear hm1
        go_wp2_with fail
        go_ret2
        refine ⟨hB0.trans (hbel.mono (by omega)), ?_⟩
        rw [HE.out]
        refine ⟨go, co, ?_, kidsIn_of HF.out HO.out, HL.out.1⟩
        rw [HD.out]
        rfl

end Go.Proofs.YthjicahpfhjfdaaGreatDoor

namespace Go.Proofs.YthjicahpfhjfdaaGreatDoor
open Go.RowKit

theorem nil_of_size {s : ByteArray} (h : s.size = 0) : s.toList = [] := by
  rw [ByteArray.toList_eq]
  exact List.eq_nil_of_length_eq_zero (by simpa using h)
theorem size_of_nil {s : ByteArray} (h : s.toList = []) : s.size = 0 := by
  rw [ByteArray.toList_eq] at h
  have := congrArg List.length h
  simpa using this
theorem size_of_empty {s : ByteArray} (h : s.toList.isEmpty = true) : s.size = 0 := size_of_nil (by simpa using h)

theorem ne_nil_of_size {s : ByteArray} (h : s.size ≠ 0) : ¬ s.toList = [] := fun e => h (size_of_nil e)
theorem ne_empty_of_size {s : ByteArray} (h : s.size ≠ 0) : s.toList.isEmpty = false := by
  cases e : s.toList.isEmpty with
  | false => rfl
  | true => exact absurd (size_of_empty e) h

end Go.Proofs.YthjicahpfhjfdaaGreatDoor
