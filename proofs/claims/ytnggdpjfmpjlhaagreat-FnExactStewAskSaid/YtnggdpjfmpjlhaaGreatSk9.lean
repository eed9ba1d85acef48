import Derived.Test.YtnggdpjfmpjlhaaGreatTkw
import Derived.Test.YtnggdpjfmpjlhaaGreatSk8
import Derived.Test.YtnggdpjfmpjlhaaGreatSt9
namespace Go.Proofs.YtnggdpjfmpjlhaaGreat
open Go.RowKit

def asksB (a : Sac) : Bool := decide (0 < a.create) || a.scale || decide (0 < a.ends.length) || a.drop
def askL (kd : Int) (x : Sbk) : List Sac := (x.services.map (actA kd x)).filter asksB

theorem sen_grown {lo : Nat} {w w' : World} {row : Option Nat} {a : Option Addr} {l : List Sen} (h : SliceC SenC 2 lo w a l) (hg : w.grownBy w' row) (hne : ∀ b o, a = some ⟨b, o, none⟩ → l ≠ [] → some b ≠ row) : SliceC SenC 2 lo w' a l := by
 obtain ⟨h1, h2⟩ := h
 rcases h2 with e | ⟨b, o, ea, ⟨hlo, hfz⟩, hbl, hc⟩
 ·exact ⟨h1, .inl e⟩
 ·by_cases hl : l = []
  ·exact ⟨h1, .inl hl⟩
  ·have hn := hne b o ea hl
   refine ⟨h1, .inr ⟨b, o, ea, ⟨hlo, fun hp p => (hg.frozen_far ⟨b, p, none⟩ hbl hn).trans (hfz hp p)⟩, Nat.lt_of_lt_of_le hbl hg.size, fun j x hj => ?_⟩⟩
   obtain ⟨e0, e1⟩ := hc j x hj
   exact ⟨(hg.cell_far ⟨b, o + j * 2 + 0, none⟩ hbl hn).trans e0, (hg.cell_far ⟨b, o + j * 2 + 1, none⟩ hbl hn).trans e1⟩

theorem sen_setCells {lo g : Nat} {w : World} {a : Option Addr} {l : List Sen} (h : SliceC SenC 2 lo w a l) (hne : ∀ b o, a = some ⟨b, o, none⟩ → l ≠ [] → b ≠ g) (vs : List Value) (o : Nat) : SliceC SenC 2 lo (w.setCells g o vs) a l := by
 obtain ⟨h1, h2⟩ := h
 rcases h2 with e | ⟨b, p, ea, ⟨hlo, hfz⟩, hbl, hc⟩
 ·exact ⟨h1, .inl e⟩
 ·by_cases hl : l = []
  ·exact ⟨h1, .inl hl⟩
  ·have hn := hne b p ea hl
   have hk : ∀ (vs : List Value) (o : Nat) (w : World), (w.setCells g o vs).heap.size = w.heap.size ∧ (w.setCells g o vs).heap[b]? = w.heap[b]? := by
    intro vs
    induction vs with
    | nil => exact fun o w => ⟨rfl, rfl⟩
    | cons u r ih =>
     intro o w
     have h3 := ih (o + 1) (w.setCell ⟨g, o, none⟩ u)
     have h4 := Below.heap_setCell w ⟨g, o, none⟩ u b hn
     have h5 : (w.setCell ⟨g, o, none⟩ u).heap.size = w.heap.size := by simp
     exact ⟨h3.1.trans h5, h3.2.trans h4⟩
   have hb2 := (hk vs o w).2
   refine ⟨h1, .inr ⟨b, p, ea, ⟨hlo, fun hp q => (World.frozen?_of_block (a := ⟨b, q, none⟩) hb2).trans (hfz hp q)⟩, by rw [(hk vs o w).1]; exact hbl, fun j x hj => ?_⟩⟩
   obtain ⟨e0, e1⟩ := hc j x hj
   exact ⟨(World.cell?_of_block (a := ⟨b, p + j * 2 + 0, none⟩) hb2).trans e0, (World.cell?_of_block (a := ⟨b, p + j * 2 + 1, none⟩) hb2).trans e1⟩

def AcAt (lo g : Nat) (w : World) (cs : List Value) (l : List Sac) : Prop := ∀ j a, l[j]? = some a → a.service.size ≤ maxLen ∧ ∃ (ae : Option Addr) (ce : Nat), (∀ i u, ([.string a.service, .int .i64 a.seen, .int .i64 a.create, .int .i64 a.want, .int .i64 a.cool, .bool a.scale, .slice ae a.ends.length ce, .bool a.drop] : List Value)[i]? = some u → cs[j * 8 + i]? = some u) ∧ SliceC SenC 2 lo w ae a.ends ∧ (∀ b o, ae = some ⟨b, o, none⟩ → a.ends ≠ [] → b ≠ g ∧ b < w.heap.size)

theorem AcAt.below {lo g : Nat} {w w' : World} {cs : List Value} {l : List Sac} (h : AcAt lo g w cs l) (hb : Below w.heap.size w w') : AcAt lo g w' cs l := by
 intro j a hj
 obtain ⟨hz, ae, ce, h1, h2, h3⟩ := h j a hj
 exact ⟨hz, ae, ce, h1, h2.below SenC.holds hb (Nat.le_refl _), fun b o e hn => ⟨(h3 b o e hn).1, Nat.lt_of_lt_of_le (h3 b o e hn).2 hb.size⟩⟩

theorem AcAt.snoc {lo g g2 : Nat} {w w' : World} {cs : List Value} {l : List Sac} {a : Sac} {ae : Option Addr} {ce : Nat} (h : AcAt lo g w cs l) (hl : cs.length = l.length * 8) (hg : w.grownBy w' (some g)) (h2 : g2 = g ∨ w.heap.size ≤ g2) (hz : a.service.size ≤ maxLen) (hs : SliceC SenC 2 lo w ae a.ends) (hb : ∀ b o, ae = some ⟨b, o, none⟩ → a.ends ≠ [] → b ≠ g ∧ b < w.heap.size) :
  AcAt lo g2 w' (cs ++ [.string a.service, .int .i64 a.seen, .int .i64 a.create, .int .i64 a.want, .int .i64 a.cool, .bool a.scale, .slice ae a.ends.length ce, .bool a.drop]) (l ++ [a]) := by
 have far : ∀ b, b ≠ g ∧ b < w.heap.size → b ≠ g2 ∧ b < w'.heap.size := by
  intro b hb
  refine ⟨?_, Nat.lt_of_lt_of_le hb.2 hg.size⟩
  rcases h2 with rfl | h
  ·exact hb.1
  ·omega
 have ne : ∀ b, b ≠ g → some b ≠ some g := fun b hb e => hb (Option.some.inj e)
 intro j c hj
 by_cases hlt : j < l.length
 ·rw [List.getElem?_append_left hlt] at hj
  obtain ⟨hz', ae', ce', q1, q2, q3⟩ := h j c hj
  refine ⟨hz', ae', ce', fun i u hu => ?_, sen_grown q2 hg (fun b o e hn => ne b (q3 b o e hn).1), fun b o e hn => far b (q3 b o e hn)⟩
  have hi : i < 8 := lt_of_some hu
  rw [List.getElem?_append_left (by rw [hl]; omega)]
  exact q1 i u hu
 ·have hje : j = l.length := by have := lt_of_some hj; simp at this; omega
  subst hje
  simp at hj
  subst hj
  refine ⟨hz, ae, ce, fun i u hu => ?_, sen_grown hs hg (fun b o e hn => ne b (hb b o e hn).1), fun b o e hn => far b (hb b o e hn)⟩
  rw [List.getElem?_append_right (by rw [hl]; omega), hl, Nat.add_sub_cancel_left]
  exact hu

theorem row_acts {w : World} {base lo g q : Nat} {l : List Sac} {cs : List Value} (h : w.ownsRow base 47 8 (.slice (some ⟨g, 0, none⟩) l.length q) l.length cs) (hA : AcAt lo g w cs l) (hm : l.length ≤ maxLen) (hlo : lo ≤ base) : SliceC SacC 8 lo w (some ⟨g, 0, none⟩) l := by
 rcases h.2 with ⟨hv, _⟩ | ⟨g', cap, cur, hv, hb, hg, _⟩
 ·cases hv
 ·cases hv
  refine ⟨hm, .inr ⟨g, 0, rfl, ⟨Nat.le_trans hlo hb, fun _ p => h.frozenAt p⟩, (Array.getElem?_eq_some_iff.1 hg).1, fun j a hj => ?_⟩⟩
  have hlt := lt_of_some hj
  obtain ⟨hz, ae, ce, q1, q2, _⟩ := hA j a hj
  have key : ∀ i u, i < 8 → ([.string a.service, .int .i64 a.seen, .int .i64 a.create, .int .i64 a.want, .int .i64 a.cool, .bool a.scale, .slice ae a.ends.length ce, .bool a.drop] : List Value)[i]? = some u → w.cell? ⟨g, 0 + j * 8 + i, none⟩ = some u := by
   intro i u hi hu
   have := h.cellAt (j * 8 + i) (by omega)
   rw [q1 i u hu] at this
   simpa using this
  exact ⟨ae, ce, key 0 _ (by omega) rfl, key 1 _ (by omega) rfl, key 2 _ (by omega) rfl, key 3 _ (by omega) rfl, key 4 _ (by omega) rfl, key 5 _ (by omega) rfl, key 6 _ (by omega) rfl, key 7 _ (by omega) rfl, hz, q2⟩

theorem blk_news {w : World} {g : Nat} {cs : Array Value} {t : TypeId} (h : Blk g cs t w) : ∀ j u, cs.toList[j]? = some u → w.cell? ((⟨g, 0, none⟩ : Addr).add j) = some u := by
 intro j x hj
 rw [Addr.add_mid]
 exact h.rangeA j x hj

def AskRes (kd : Int) (x : Sbk) (w : World) (e : Ending) (w' : World) : Prop := ∃ (g q : Nat) (l : List Sac), e = .returned (.slice (some ⟨g, 0, none⟩) l.length q) ∧ (SVal x → l = askL kd x) ∧ (¬ SVal x → l = []) ∧ SliceC SacC 8 w.heap.size w' (some ⟨g, 0, none⟩) l ∧ Below w.heap.size w w'

theorem ask_step {kd : Int} {x : Sbk} {k : Nat} {y : Ssv} (h : x.services[k]? = some y) : ((x.services.take (k + 1)).map (actA kd x)).filter asksB = ((x.services.take k).map (actA kd x)).filter asksB ++ (if asksB (actA kd x y) = true then [actA kd x y] else []) := by
 rw [List.take_add_one, h, List.map_append, List.filter_append]
 cases hp : asksB (actA kd x y) <;> simp [hp]
theorem ask_len (kd : Int) (x : Sbk) (k : Nat) : (((x.services.take k).map (actA kd x)).filter asksB).length ≤ x.services.length := by
 have h1 := List.length_filter_le asksB ((x.services.take k).map (actA kd x))
 have h2 : ((x.services.take k).map (actA kd x)).length ≤ x.services.length := by rw [List.length_map, List.length_take]; omega
 omega
theorem sv_ite {c : Prop} [Decidable c] {a b : Sac} {n : ByteArray} (ha : a.service = n) (hb : b.service = n) : (if c then a else b).service = n := by
 by_cases h : c
 ·rw [if_pos h]; exact ha
 ·rw [if_neg h]; exact hb
theorem cu_service (x : Sbk) (v : Ssv) : (cuA x v).service = v.name := sv_ite rfl (sv_ite rfl rfl)
theorem re_service (x : Sbk) (v : Ssv) (l : List Nat) : (reA x v l).service = v.name := sv_ite rfl (sv_ite rfl rfl)
theorem sc_service (v : Ssv) : (scA v).service = v.name := sv_ite rfl (sv_ite rfl (sv_ite rfl (sv_ite (sv_ite rfl rfl) (sv_ite rfl rfl))))
theorem act_service (kd : Int) (x : Sbk) (v : Ssv) : (actA kd x v).service = v.name := sv_ite rfl (sv_ite (sv_ite rfl rfl) (sv_ite (cu_service x v) (sv_ite (re_service x v _) (sv_ite (sv_ite (re_service x v _) rfl) (sv_ite (sv_ite (sc_service v) rfl) rfl)))))

set_option maxHeartbeats 32000000 in
set_option maxRecDepth 100000 in
theorem specAsk_any (x : Sbk) (a1 : Option Addr) (c1 : Nat) (a2 : Option Addr) (c2 : Nat) (a3 : Option Addr) (c3 : Nat) (lo : Nat) (kd : Int) (w : World) (n1 : SliceC SsvC 13 lo w a1 x.services) (n2 : SliceC ScpC 7 lo w a2 x.copies) (n3 : SliceC SbtC 2 lo w a3 x.berths) :
  Calls Tryz.prog 5 #[.int .i64 kd, .agg #[.int .i64 x.now, .slice a1 x.services.length c1, .slice a2 x.copies.length c2, .slice a3 x.berths.length c3]] w fun e w' => AskRes kd x w e w' := by
 obtain ⟨i0, hi, hz0, hz1, hz2⟩ := info_parts info_Sac
 have HN1 := Hid.intro n1
 have HN2 := Hid.intro n2
 have HN3 := Hid.intro n3
 clear n1 n2 n3
 have h1 : Blk w.heap.size #[.int .i64 x.now, .slice a1 x.services.length c1, .slice a2 x.copies.length c2, .slice a3 x.berths.length c3] 34 (w.alloc (Obj.cells #[.int .i64 x.now, .slice a1 x.services.length c1, .slice a2 x.copies.length c2, .slice a3 x.berths.length c3] 34)) := Blk.alloc _ _ _
 have HB2 : Hid (Blk w.heap.size #[.int .i64 x.now, .slice a1 x.services.length c1, .slice a2 x.copies.length c2, .slice a3 x.berths.length c3] 34 ((w.alloc (Obj.cells #[.int .i64 x.now, .slice a1 x.services.length c1, .slice a2 x.copies.length c2, .slice a3 x.berths.length c3] 34)).alloc (Obj.cells #[] 47))) := h1.below ((Below.refl _ _).alloc (Nat.le_refl _) _) h1.lt
 have HO2 : Hid (((w.alloc (Obj.cells #[.int .i64 x.now, .slice a1 x.services.length c1, .slice a2 x.copies.length c2, .slice a3 x.berths.length c3] 34)).alloc (Obj.cells #[] 47)).ownsRow (w.heap.size + 1) 47 8 (.slice (some ⟨w.heap.size + 1, 0, none⟩) 0 0) 0 []) := by
  have := World.ownsRow_made (w.alloc (Obj.cells #[.int .i64 x.now, .slice a1 x.services.length c1, .slice a2 x.copies.length c2, .slice a3 x.berths.length c3] 34)) (e := 47) (size := 8) (base := w.heap.size + 1) #[] 0 (by simp) (Nat.zero_le _) rfl
  show World.ownsRow _ _ _ _ _ _ _
  simpa using this
 have hB2 : Below w.heap.size w ((w.alloc (Obj.cells #[.int .i64 x.now, .slice a1 x.services.length c1, .slice a2 x.copies.length c2, .slice a3 x.berths.length c3] 34)).alloc (Obj.cells #[] 47)) := by go_grown
 clear h1
 go_enter Tryz.func5, Tryz.ntmps5
 go_upto_region 2 with fail
 generalize (w.alloc (Obj.cells #[.int .i64 x.now, .slice a1 x.services.length c1, .slice a2 x.copies.length c2, .slice a3 x.berths.length c3] 34)).alloc (Obj.cells #[] 47) = w2 at *
 have hg0 : w.heap.size < w.heap.size + 1 := by omega
 generalize w.heap.size + 1 = g0 at *
 go_wp2_with (refine wpList_load_mid rfl 34 _ rfl w.heap.size 0 rfl [.int .i64 x.now, .slice a1 x.services.length c1, .slice a2 x.copies.length c2, .slice a3 x.berths.length c3] _ HB2.out.rangeA Tryz.underlying34 rfl isz_Sbk ?_)
 refine (specSVal_any x a1 c1 a2 c2 a3 c3 lo _ (HN1.out.below SsvC.holds hB2 (Nat.le_refl _)) (HN2.out.below ScpC.holds hB2 (Nat.le_refl _)) (HN3.out.below SbtC.holds hB2 (Nat.le_refl _))).mono ?_
 rintro e w3 ⟨t, rfl, ht, hb⟩
 have HB3 := Hid.intro (HB2.out.below hb HB2.out.lt)
 have HO3 := Hid.intro (ownsRow_below HO2.out hb)
 have hB3 := hB2.trans (hb.mono hB2.size)
 clear hb HB2 HO2 hB2
 cases t with
 | false =>
  have HNV : Hid (¬ SVal x) := fun h => by have := ht.2 h; cases this
  clear ht
  go_wp2_with fail
  go_ret
  refine ⟨g0, 0, [], rfl, fun h => absurd h HNV.out, fun _ => rfl, ⟨Nat.zero_le _, .inl rfl⟩, hB3⟩
 | true =>
  have HSV : Hid (SVal x) := ht.1 rfl
  have hls := HSV.out.l1
  clear ht
  obtain ⟨f, HFF⟩ : ∃ f : Nat → List Sac, Hid (f = fun k => ((x.services.take k).map (actA kd x)).filter asksB) := ⟨_, rfl⟩
  have HF0 : Hid (f 0 = []) := by show _ = _; rw [HFF.out]; rfl
  have HFL : Hid (∀ k, (f k).length ≤ 8) := by intro k; rw [HFF.out]; have := ask_len kd x k; show (List.filter _ _).length ≤ 8; omega
  have HFE : Hid (f x.services.length = askL kd x) := by show _ = _; rw [HFF.out]; show List.filter _ (List.map _ (List.take _ _)) = _; rw [List.take_length]; rfl
  go_wp2_with fail
  go_loopw [5, 6] (fun u i wr => ∃ (k g q : Nat) (cs : List Value), k ≤ x.services.length ∧ i = .int .i64 k ∧ u = .slice (some ⟨g, 0, none⟩) (f k).length q ∧ Hid (Blk w.heap.size #[.int .i64 x.now, .slice a1 x.services.length c1, .slice a2 x.copies.length c2, .slice a3 x.berths.length c3] 34 wr) ∧ Hid (wr.ownsRow g0 47 8 (.slice (some ⟨g, 0, none⟩) (f k).length q) (f k).length cs) ∧ Hid (AcAt w.heap.size g wr cs (f k)) ∧ Below w.heap.size w wr) (fun _ i _ => x.services.length - (intOf i).toNat)
  case atStart => exact ⟨0, g0, 0, [], Nat.zero_le _, rfl, by rw [HF0.out]; rfl, HB3, by rw [HF0.out]; exact HO3, by rw [HF0.out]; intro j a hj; simp at hj, hB3⟩
  case round =>
   clear HB3 HO3 hB3 HF0
   obtain ⟨k, g, q, cs, hk, rfl, rfl, HB, hO, HAC, hbel⟩ := hrel
   by_cases hlt : k < x.services.length
   case neg =>
    have hke : k = x.services.length := by omega
    subst hke
    have hfl := HFL.out x.services.length
    have kb1 : wr.cell? ⟨w.heap.size, 1, none⟩ = some (.slice a1 x.services.length c1) := HB.out.cell rfl
    go_wp2_with fail
    go_ret
    refine ⟨g, q, f x.services.length, rfl, fun _ => HFE.out, fun h => absurd HSV.out h, row_acts hO.out HAC.out (by unfold maxLen; omega) (by omega), hbel⟩
   obtain ⟨y, hy⟩ : ∃ y, x.services[k]? = some y := ⟨x.services[k], List.getElem?_eq_getElem hlt⟩
   obtain ⟨b1, o1, rfl, _, hb1, hcc⟩ := HN1.out.at hy
   have HRY := Hid.intro (rngSsv hcc)
   have hz0y : y.name.size ≤ maxLen := by obtain ⟨_, _, _, _, _, _, _, _, _, _, _, _, _, z⟩ := hcc; exact z
   have HNY : Hid (SvNum y) := svNum (HSV.out.s1 k y hy)
   have HST : Hid (f (k + 1) = f k ++ (if asksB (actA kd x y) = true then [actA kd x y] else [])) := by show _ = _; rw [HFF.out]; exact ask_step hy
   have HZA : Hid ((actA kd x y).service.size ≤ maxLen) := by show _ ≤ _; rw [act_service]; exact hz0y
   have hgb : g0 ≤ g := row_baseI hO.out
   have hfl := HFL.out k
   clear hcc hy hz0y
   obtain ⟨a, hac⟩ : ∃ a, a = actA kd x y := ⟨_, rfl⟩
   obtain ⟨M, HM⟩ : ∃ M, Hid (M = f k) := ⟨_, rfl⟩
   rw [← HM.out] at hO HAC HST hfl ⊢
   rw [← hac] at HST HZA
   have HAA := Hid.intro hac
   clear hac
   have kb1 : wr.cell? ⟨w.heap.size, 1, none⟩ = some (.slice (some ⟨b1, o1, none⟩) x.services.length c1) := HB.out.cell rfl
   go_upto_region 7 with fail
   clear kb1
   go_cut [7] (fun p wz => ∃ (gs : Nat) (ae : Option Addr) (ce : Nat), p = .pointer (some ⟨gs, 0, none⟩) ∧ Hid (Blk gs #[.string a.service, .int .i64 a.seen, .int .i64 a.create, .int .i64 a.want, .int .i64 a.cool, .bool a.scale, .slice ae a.ends.length ce, .bool a.drop] 47 wz) ∧ Hid (SliceC SenC 2 wr.heap.size wz ae a.ends) ∧ Below wr.heap.size wr wz)
   case first =>
    have HSB : Hid (∀ wz, Below wr.heap.size wr wz → (fun wy => Blk w.heap.size #[.int .i64 x.now, .slice (some ⟨b1, o1, none⟩) x.services.length c1, .slice a2 x.copies.length c2, .slice a3 x.berths.length c3] 34 wy ∧ wy.rangeAt b1 (o1 + k * 13) [.string y.name, .int .i64 y.version, .bool y.gone, .int .i64 y.image, .int .i64 y.want, .int .i64 y.down, .int .i64 y.over, .int .i64 y.next, .int .i64 y.per, .int .i64 y.least, .int .i64 y.most, .int .i64 y.load, .int .i64 y.cool]) wz) := fun wz hb => ⟨HB.out.below hb HB.out.lt, rngB HRY.out (hbel.trans (hb.mono hbel.size)) hb1⟩
    refine wp_region_held_drew (S := fun wy => Blk w.heap.size #[.int .i64 x.now, .slice (some ⟨b1, o1, none⟩) x.services.length c1, .slice a2 x.copies.length c2, .slice a3 x.berths.length c3] 34 wy ∧ wy.rangeAt b1 (o1 + k * 13) [.string y.name, .int .i64 y.version, .bool y.gone, .int .i64 y.image, .int .i64 y.want, .int .i64 y.down, .int .i64 y.over, .int .i64 y.next, .int .i64 y.per, .int .i64 y.least, .int .i64 y.most, .int .i64 y.load, .int .i64 y.cool]) (by kernel_rfl) (HSB.out _ (Below.refl _ _).drew) (fun hS => ?_)
    have hBn : Below wr.heap.size wr wr.drew := (Below.refl _ _).drew
    obtain ⟨wn, HWN⟩ : ∃ wn, Hid (wn = wr.drew) := ⟨_, rfl⟩
    rw [← HWN.out] at hS hBn ⊢
    clear HWN
    refine tz 0 20 (.int .i64 kd) rfl hS ?_
    simp only [pA,pB,pC,pD]
    refine tm 1 21 w.heap.size 0 [.int .i64 x.now, .slice (some ⟨b1, o1, none⟩) x.services.length c1, .slice a2 x.copies.length c2, .slice a3 x.berths.length c3] rfl (fun _ h => h.1.rangeA) Tryz.underlying34 isz_Sbk hS ?_
    simp only [pA,pB,pC,pD]
    refine tz 2 22 (.pointer (some ⟨w.heap.size, 1, none⟩)) rfl hS ?_
    simp only [pA,pB,pC,pD]
    refine ty 3 ⟨some 23, _, _, _, _, none⟩ (.slice (some ⟨b1, o1, none⟩) x.services.length c1) rfl (by rfl) ?_ hS ?_
    ·intro wy hy
     have h0 := hy.1.cell (o := 1) rfl
     clear hy
     go_simp
    simp only [pA,pB,pC,pD]
    refine tz 4 24 (.int .i64 k) rfl hS ?_
    simp only [pA,pB,pC,pD]
    refine ty 5 ⟨some 25, _, _, _, _, none⟩ (.pointer (some ⟨b1, o1 + k * 13, none⟩)) rfl (by rfl) ?_ hS ?_
    ·intro wy hy
     clear hy
     first | (go_simp; done) | (go_simp; omega) | (go_simp; intro hh; omega)
    simp only [pA,pB,pC,pD]
    refine tm 6 26 b1 (o1 + k * 13) [.string y.name, .int .i64 y.version, .bool y.gone, .int .i64 y.image, .int .i64 y.want, .int .i64 y.down, .int .i64 y.over, .int .i64 y.next, .int .i64 y.per, .int .i64 y.least, .int .i64 y.most, .int .i64 y.load, .int .i64 y.cool] rfl (fun _ h => h.2) Tryz.underlying50 isz_Ssv hS ?_
    simp only [pA,pB,pC,pD]
    refine wpAnyH_ready (rs := [7, 8]) (by kernel_rfl) (by simp) (AllReadyH.cons (o := ⟨some 27, _, _, _, _, none⟩) rfl (fun KK hKK => ?_) (AllReadyH.cons (o := ⟨some 7, _, _, _, _, none⟩) rfl (fun KK hKK => ?_) AllReadyH.nil))
    ·skip
     go_simp
     have hBW := hbel.trans (hBn.mono hbel.size)
     refine (act22_any x _ c1 a2 c2 a3 c3 lo kd y _ (HN1.out.below SsvC.holds hBW (Nat.le_refl _)) (HN2.out.below ScpC.holds hBW (Nat.le_refl _)) (HN3.out.below SbtC.holds hBW (Nat.le_refl _)) (SWk.of HSV.out) (by have := HSV.out.l3; omega) HNY.out).mono ?_
     rintro e wm ⟨ae, ce, rfl, hen, hb⟩
     rw [← HAA.out] at hen ⊢
     have HEN : Hid (SliceC SenC 2 wr.heap.size wm ae a.ends) := hen.keep SenC.holds (Keeps.refl _ _) hBn.size
     have HEN0 := HEN
     replace hBn := hBn.trans (hb.mono hBn.size)
     refine hKK.out _ _ (HSB.out _ hBn) (fun hS => ?_)
     clear hKK KK hb hen hBW
     refine rd1 8 ⟨some 7, _, _, _, _, none⟩ rfl (fun KK hKK => ?_)
     go_simp
     have hba : Below wm.heap.size wm (wm.alloc (Obj.cells #[.string ⟨#[]⟩, .int .i64 0, .int .i64 0, .int .i64 0, .int .i64 0, .bool false, .slice none 0 0, .bool false] 47)) := (Below.refl _ _).alloc (Nat.le_refl _) _
     have HG : Hid (Blk wm.heap.size #[.string ⟨#[]⟩, .int .i64 0, .int .i64 0, .int .i64 0, .int .i64 0, .bool false, .slice none 0 0, .bool false] 47 (wm.alloc (Obj.cells #[.string ⟨#[]⟩, .int .i64 0, .int .i64 0, .int .i64 0, .int .i64 0, .bool false, .slice none 0 0, .bool false] 47))) := Blk.alloc _ _ _
     have hgs : wr.heap.size ≤ wm.heap.size := hBn.size
     replace HEN := Hid.intro (HEN.out.below SenC.holds hba (Nat.le_refl _))
     have hgl : wm.heap.size < (wm.alloc (Obj.cells #[.string ⟨#[]⟩, .int .i64 0, .int .i64 0, .int .i64 0, .int .i64 0, .bool false, .slice none 0 0, .bool false] 47)).heap.size := HG.out.lt
     have HNE : Hid (∀ b o, ae = some ⟨b, o, none⟩ → a.ends ≠ [] → b ≠ wm.heap.size) := by
      intro b o e hn
      obtain ⟨_, h⟩ := HEN0.out
      rcases h with h | ⟨b2, o2, e2, _, hl, _⟩
      ·exact absurd h hn
      ·rw [e] at e2
       cases e2
       omega
     replace hBn := hBn.trans (hba.mono hBn.size)
     refine hKK.out _ _ (HSB.out _ hBn) (fun hS => ?_)
     clear hKK KK hba
     generalize wm.heap.size = gs at *
     generalize wm.alloc (Obj.cells #[.string ⟨#[]⟩, .int .i64 0, .int .i64 0, .int .i64 0, .int .i64 0, .bool false, .slice none 0 0, .bool false] 47) = wb at *
     refine rd1 9 ⟨none, _, _, _, _, none⟩ rfl (fun KK hKK => ?_)
     rw [if_pos (by rfl)]
     refine wp_store_mid 47 (.tmp 7) (.tmp 27) (by rfl) gs 0 #[.string a.service, .int .i64 a.seen, .int .i64 a.create, .int .i64 a.want, .int .i64 a.cool, .bool a.scale, .slice ae a.ends.length ce, .bool a.drop] (by rfl) (by rfl) HG.out.there isz_Sac (by simp [Value.oneCell']) ?_
     have HG9 : Hid (Blk gs #[.string a.service, .int .i64 a.seen, .int .i64 a.create, .int .i64 a.want, .int .i64 a.cool, .bool a.scale, .slice ae a.ends.length ce, .bool a.drop] 47 (wb.setCells gs 0 [.string a.service, .int .i64 a.seen, .int .i64 a.create, .int .i64 a.want, .int .i64 a.cool, .bool a.scale, .slice ae a.ends.length ce, .bool a.drop])) := HG.out.setAll #[.string a.service, .int .i64 a.seen, .int .i64 a.create, .int .i64 a.want, .int .i64 a.cool, .bool a.scale, .slice ae a.ends.length ce, .bool a.drop] rfl
     have hB9 : Below wr.heap.size wr (wb.setCells gs 0 [.string a.service, .int .i64 a.seen, .int .i64 a.create, .int .i64 a.want, .int .i64 a.cool, .bool a.scale, .slice ae a.ends.length ce, .bool a.drop]) := below_setCells hgs _ _ _ hBn
     have HEN9 : Hid (SliceC SenC 2 wr.heap.size (wb.setCells gs 0 [.string a.service, .int .i64 a.seen, .int .i64 a.create, .int .i64 a.want, .int .i64 a.cool, .bool a.scale, .slice ae a.ends.length ce, .bool a.drop]) ae a.ends) := sen_setCells HEN.out HNE.out _ _
     refine hKK.out _ _ (HSB.out _ hB9) (fun hS => ?_)
     clear hKK KK hS
     refine wpAnyH_done (by kernel_rfl) ?_ _
     go_wp2_with fail
     go_meet
     exact ⟨gs, ae, ce, rfl, HG9, HEN9, hB9⟩
    ·skip
     go_simp
     have hba : Below wn.heap.size wn (wn.alloc (Obj.cells #[.string ⟨#[]⟩, .int .i64 0, .int .i64 0, .int .i64 0, .int .i64 0, .bool false, .slice none 0 0, .bool false] 47)) := (Below.refl _ _).alloc (Nat.le_refl _) _
     have HG : Hid (Blk wn.heap.size #[.string ⟨#[]⟩, .int .i64 0, .int .i64 0, .int .i64 0, .int .i64 0, .bool false, .slice none 0 0, .bool false] 47 (wn.alloc (Obj.cells #[.string ⟨#[]⟩, .int .i64 0, .int .i64 0, .int .i64 0, .int .i64 0, .bool false, .slice none 0 0, .bool false] 47))) := Blk.alloc _ _ _
     have hgs : wr.heap.size ≤ wn.heap.size := hBn.size
     have hgl : wn.heap.size < (wn.alloc (Obj.cells #[.string ⟨#[]⟩, .int .i64 0, .int .i64 0, .int .i64 0, .int .i64 0, .bool false, .slice none 0 0, .bool false] 47)).heap.size := HG.out.lt
     replace hBn := hBn.trans (hba.mono hBn.size)
     refine hKK.out _ _ (HSB.out _ hBn) (fun hS => ?_)
     clear hKK KK hba
     generalize wn.heap.size = gs at *
     generalize wn.alloc (Obj.cells #[.string ⟨#[]⟩, .int .i64 0, .int .i64 0, .int .i64 0, .int .i64 0, .bool false, .slice none 0 0, .bool false] 47) = wa at *
     refine rd1 7 ⟨some 27, _, _, _, _, none⟩ rfl (fun KK hKK => ?_)
     go_simp
     have hBW := hbel.trans (hBn.mono hbel.size)
     refine (act22_any x _ c1 a2 c2 a3 c3 lo kd y _ (HN1.out.below SsvC.holds hBW (Nat.le_refl _)) (HN2.out.below ScpC.holds hBW (Nat.le_refl _)) (HN3.out.below SbtC.holds hBW (Nat.le_refl _)) (SWk.of HSV.out) (by have := HSV.out.l3; omega) HNY.out).mono ?_
     rintro e wm ⟨ae, ce, rfl, hen, hb⟩
     rw [← HAA.out] at hen ⊢
     have HEN : Hid (SliceC SenC 2 wr.heap.size wm ae a.ends) := hen.keep SenC.holds (Keeps.refl _ _) hBn.size
     have HEN0 := HEN
     replace HG := Hid.intro (HG.out.below hb HG.out.lt)
     have HNE : Hid (∀ b o, ae = some ⟨b, o, none⟩ → a.ends ≠ [] → b ≠ gs) := by
      intro b o e hn
      obtain ⟨_, h⟩ := hen
      rcases h with h | ⟨b2, o2, e2, hl, _, _⟩
      ·exact absurd h hn
      ·rw [e] at e2
       cases e2
       have := hl.1
       omega
     replace hBn := hBn.trans (hb.mono hBn.size)
     refine hKK.out _ _ (HSB.out _ hBn) (fun hS => ?_)
     clear hKK KK hb hen hBW
     refine rd1 9 ⟨none, _, _, _, _, none⟩ rfl (fun KK hKK => ?_)
     rw [if_pos (by rfl)]
     refine wp_store_mid 47 (.tmp 7) (.tmp 27) (by rfl) gs 0 #[.string a.service, .int .i64 a.seen, .int .i64 a.create, .int .i64 a.want, .int .i64 a.cool, .bool a.scale, .slice ae a.ends.length ce, .bool a.drop] (by rfl) (by rfl) HG.out.there isz_Sac (by simp [Value.oneCell']) ?_
     have HG9 : Hid (Blk gs #[.string a.service, .int .i64 a.seen, .int .i64 a.create, .int .i64 a.want, .int .i64 a.cool, .bool a.scale, .slice ae a.ends.length ce, .bool a.drop] 47 (wm.setCells gs 0 [.string a.service, .int .i64 a.seen, .int .i64 a.create, .int .i64 a.want, .int .i64 a.cool, .bool a.scale, .slice ae a.ends.length ce, .bool a.drop])) := HG.out.setAll #[.string a.service, .int .i64 a.seen, .int .i64 a.create, .int .i64 a.want, .int .i64 a.cool, .bool a.scale, .slice ae a.ends.length ce, .bool a.drop] rfl
     have hB9 : Below wr.heap.size wr (wm.setCells gs 0 [.string a.service, .int .i64 a.seen, .int .i64 a.create, .int .i64 a.want, .int .i64 a.cool, .bool a.scale, .slice ae a.ends.length ce, .bool a.drop]) := below_setCells hgs _ _ _ hBn
     have HEN9 : Hid (SliceC SenC 2 wr.heap.size (wm.setCells gs 0 [.string a.service, .int .i64 a.seen, .int .i64 a.create, .int .i64 a.want, .int .i64 a.cool, .bool a.scale, .slice ae a.ends.length ce, .bool a.drop]) ae a.ends) := sen_setCells HEN.out HNE.out _ _
     refine hKK.out _ _ (HSB.out _ hB9) (fun hS => ?_)
     clear hKK KK hS
     refine wpAnyH_done (by kernel_rfl) ?_ _
     go_wp2_with fail
     go_meet
     exact ⟨gs, ae, ce, rfl, HG9, HEN9, hB9⟩
   case rest =>
    obtain ⟨gs, ae, ce, rfl, HG, HEN, hbx⟩ := hcut
    generalize wc = w3 at *
    have HB3 := Hid.intro (HB.out.below hbx HB.out.lt)
    have HO3 := Hid.intro (ownsRow_below hO.out hbx)
    have HAC3 := Hid.intro (HAC.out.below hbx)
    have hB3 := hbel.trans (hbx.mono hbel.size)
    have hgr : g < wr.heap.size := (hO.out.lt g rfl).2
    have hwr : w.heap.size ≤ wr.heap.size := hbel.size
    clear HB hO HAC hbel hbx HRY
    go_upto_region 8 with fail
    have k2 : w3.cell? ⟨gs, 2, none⟩ = some (.int .i64 a.create) := HG.out.cell rfl
    have k5 : w3.cell? ⟨gs, 5, none⟩ = some (.bool a.scale) := HG.out.cell rfl
    have k6 : w3.cell? ⟨gs, 6, none⟩ = some (.slice ae a.ends.length ce) := HG.out.cell rfl
    have k7 : w3.cell? ⟨gs, 7, none⟩ = some (.bool a.drop) := HG.out.cell rfl
    go_cut [44] (fun p wz => p = .bool (asksB a) ∧ wz = w3)
    case first =>
     by_cases h1 : 0 < a.create
     ·have HE : Hid (asksB a = true) := by show _ = _; unfold asksB; rw [decide_eq_true h1]; simp
      go_wp2_with fail
      go_meet
      exact ⟨by rw [HE.out], rfl⟩
     ·have HE1 : Hid (asksB a = (a.scale || decide (0 < a.ends.length) || a.drop)) := by show _ = _; unfold asksB; rw [decide_eq_false h1]; simp
      have h1' : a.create ≤ 0 := by omega
      cases hs : a.scale with
      | true =>
       rw [hs] at k5
       have HE : Hid (asksB a = true) := by show _ = _; rw [HE1.out, hs]; rfl
       clear HE1
       go_wp2_with fail
       go_meet
       exact ⟨by rw [HE.out], rfl⟩
      | false =>
       rw [hs] at k5
       by_cases h3 : 0 < a.ends.length
       ·have HE : Hid (asksB a = true) := by show _ = _; rw [HE1.out, hs, decide_eq_true h3]; rfl
        have h3' : (0 : Int) < (a.ends.length : Int) := by omega
        clear HE1
        go_wp2_with fail
        go_meet
        exact ⟨by rw [HE.out], rfl⟩
       ·have HE : Hid (asksB a = a.drop) := by show _ = _; rw [HE1.out, hs, decide_eq_false h3]; rfl
        have h3' : (a.ends.length : Int) ≤ 0 := by omega
        clear HE1
        go_wp2_with fail
        go_meet
        exact ⟨by rw [HE.out], rfl⟩
    case rest =>
     obtain ⟨rfl, hwc⟩ := hcut
     rw [hwc]
     clear hwc k2 k5 k6 k7
     cases has : asksB a with
     | false =>
      have HN : Hid (f (k + 1) = M) := by show _ = _; rw [HST.out, has]; simp
      clear has
      go_wp2_with fail
      go_roundw
      case rel => exact ⟨k + 1, g, q, cs, by omega, by go_num, by rw [HN.out], HB3, by rw [HN.out]; exact HO3, by rw [HN.out]; exact HAC3, hB3⟩
      case measure => simp [intOf]; omega
     | true =>
      have HN : Hid (f (k + 1) = M ++ [a]) := by show _ = _; rw [HST.out, has]; simp
      clear has
      have HNB : Hid (Blk w3.heap.size #[.string a.service, .int .i64 a.seen, .int .i64 a.create, .int .i64 a.want, .int .i64 a.cool, .bool a.scale, .slice ae a.ends.length ce, .bool a.drop] 47 (w3.alloc (Obj.cells #[.string a.service, .int .i64 a.seen, .int .i64 a.create, .int .i64 a.want, .int .i64 a.cool, .bool a.scale, .slice ae a.ends.length ce, .bool a.drop] 47))) := Blk.alloc _ _ _
      have hb5 : Below w3.heap.size w3 (w3.alloc (Obj.cells #[.string a.service, .int .i64 a.seen, .int .i64 a.create, .int .i64 a.want, .int .i64 a.cool, .bool a.scale, .slice ae a.ends.length ce, .bool a.drop] 47)) := (Below.refl _ _).alloc (Nat.le_refl _) _
      have HOA := Hid.intro (ownsRow_below HO3.out hb5)
      have HB5 := Hid.intro (HB3.out.below hb5 HB3.out.lt)
      have HAC5 := Hid.intro (HAC3.out.below hb5)
      have HEN5 := Hid.intro (HEN.out.below SenC.holds hb5 (Nat.le_refl _))
      have hB5 := hB3.trans (hb5.mono hB3.size)
      clear hb5
      have hcl : cs.length = M.length * 8 := HOA.out.1
      generalize hL : M.length = L at *
      have hsz : w.heap.size < w3.heap.size := HB3.out.lt
      have hgw : g0 ≤ w3.heap.size := by have := (HO3.out.lt g rfl).2; omega
      obtain ⟨NW, hNW⟩ : ∃ NW : List Value, NW = [.string a.service, .int .i64 a.seen, .int .i64 a.create, .int .i64 a.want, .int .i64 a.cool, .bool a.scale, .slice ae a.ends.length ce, .bool a.drop] := ⟨_, rfl⟩
      have HNW := Hid.intro hNW
      have HNL : Hid (NW.length = 1 * 8) := by show _ = _; rw [hNW]; rfl
      have HNC : Hid (∀ j u, NW[j]? = some u → (w3.alloc (Obj.cells #[.string a.service, .int .i64 a.seen, .int .i64 a.create, .int .i64 a.want, .int .i64 a.cool, .bool a.scale, .slice ae a.ends.length ce, .bool a.drop] 47)).cell? ((⟨w3.heap.size, 0, none⟩ : Addr).add j) = some u) := by rw [hNW]; exact blk_news HNB.out
      have HN1C : Hid (∀ u ∈ NW, u.oneCell' = true) := by
       intro u hu
       rw [hNW] at hu
       simp only [List.mem_cons, List.not_mem_nil, or_false] at hu
       rcases hu with rfl | rfl | rfl | rfl | rfl | rfl | rfl | rfl <;> rfl
      clear hNW
      go_wp2_with (first | (refine wpList_load_mid rfl 47 _ rfl gs 0 rfl [.string a.service, .int .i64 a.seen, .int .i64 a.create, .int .i64 a.want, .int .i64 a.cool, .bool a.scale, .slice ae a.ends.length ce, .bool a.drop] _ HG.out.rangeA Tryz.underlying47 rfl isz_Sac ?_) | (at_builtin; refine wpList_append_lies _ rfl (.tmp 45) (.tmp 47) 28 rfl g0 47 i0 _ 8 88 Tryz.underlying28 hi hz0 hz1 hz2 rfl (by decide) _ L _ rfl HOA.out ⟨w3.heap.size, 0, none⟩ 1 1 NW rfl HNL.out HNC.out HN1C.out (by omega) (by unfold maxLen; omega) (by omega) (by simp; omega) _ rfl ?_; intro g2 cap2 w5 hown hgrow hto hgl))
      go_roundw
      case rel =>
       refine ⟨k + 1, g2, cap2, cs ++ NW, by omega, by go_num, ?_, ?_, ?_, ?_, hB5.grown hgrow hB5.size (fun j hj => by have e2 : g = j := Option.some.inj hj; omega)⟩
       ·rw [HN.out, List.length_append, hL]; rfl
       ·exact (hgrow.block w.heap.size HB5.out.lt (fun e => by have e2 : w.heap.size = g := Option.some.inj e; omega)).trans HB5.out
       ·show World.ownsRow _ _ _ _ _ _ _
        rw [HN.out, List.length_append, hL]
        exact hown
       ·show AcAt _ _ _ _ _
        rw [HN.out, HNW.out]
        refine HAC5.out.snoc (by rw [hL]; exact hcl) hgrow ?_ HZA.out (HEN5.out.keep SenC.holds (Keeps.refl _ _) hwr) ?_
        ·rcases hto with e | e
         ·exact .inl (Option.some.inj e).symm
         ·exact .inr (by rw [e]; exact Nat.le_refl _)
        ·intro b o e hn
         obtain ⟨_, h⟩ := HEN5.out
         rcases h with h | ⟨b2, o2, e2, hl, hbl, _⟩
         ·exact absurd h hn
         ·rw [e] at e2
          cases e2
          exact ⟨by have := hl.1; omega, hbl⟩
      case measure => simp [intOf]; omega

end Go.Proofs.YtnggdpjfmpjlhaaGreat
