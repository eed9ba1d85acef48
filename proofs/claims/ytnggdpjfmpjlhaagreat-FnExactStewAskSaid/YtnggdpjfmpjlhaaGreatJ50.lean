import Derived.Test.YtnggdpjfmpjlhaaGreatLvp
import Derived.Test.YtnggdpjfmpjlhaaGreatAnl
import Derived.Test.YtnggdpjfmpjlhaaGreatJ33
namespace Go.Proofs.YtnggdpjfmpjlhaaGreat
open Go.RowKit

structure AcW (lo : Nat) (w : World) (cs : List Value) (l : List Sac) (ea : Nat → Option Addr) (ec : Nat → Nat) : Prop where
 cells : ∀ (j : Nat) a, l[j]? = some a → ∀ i u, ([.string a.service, .int .i64 a.seen, .int .i64 a.create, .int .i64 a.want, .int .i64 a.cool, .bool a.scale, .slice (ea j) a.ends.length (ec j), .bool a.drop] : List Value)[i]? = some u → cs[j * 8 + i]? = some u
 own : ∀ (j : Nat) a, l[j]? = some a → w.ownsRow lo 125 2 (.slice (ea j) a.ends.length (ec j)) a.ends.length (enV a.ends)
 sz : ∀ (j : Nat) a, l[j]? = some a → a.service.size ≤ maxLen
 ap : ∀ (i j : Nat) a b k, i ≠ j → l[i]? = some a → l[j]? = some b → (Value.slice (ea i) a.ends.length (ec i)).ownBlock = some k → (Value.slice (ea j) b.ends.length (ec j)).ownBlock = some k → False

theorem AcW.nil (lo : Nat) (w : World) : AcW lo w [] [] (fun _ => none) (fun _ => 0) := ⟨fun j a h => by simp at h, fun j a h => by simp at h, fun j a h => by simp at h, fun i j a b k _ h => by simp at h⟩

theorem own_kept {w w' : World} {row : Option Nat} {lo : Nat} {u : Value} {k : Nat} {xs : List Value} (h : w.ownsRow lo 125 2 u k xs) (hg : w.grownBy w' row) (hr : ∀ r, row = some r → ∃ cs ty, w.heap[r]? = some (Obj.cells cs ty) ∧ ty ≠ 125) : w'.ownsRow lo 125 2 u k xs :=
 h.kept hg (by
  rcases h.2 with ⟨h9, _⟩ | ⟨g9, c9, cur, h9, _, hg9, _⟩
  ·rw [h9]; exact .inl rfl
  ·rw [h9]
   refine .inr (fun e => ?_)
   obtain ⟨cs, ty, h1, h2⟩ := hr g9 e.symm
   rw [hg9] at h1
   cases h1
   exact h2 rfl)

theorem AcW.kept {lo : Nat} {w w' : World} {cs : List Value} {l : List Sac} {ea : Nat → Option Addr} {ec : Nat → Nat} {row : Option Nat} (h : AcW lo w cs l ea ec) (hg : w.grownBy w' row) (hr : ∀ r, row = some r → ∃ cs ty, w.heap[r]? = some (Obj.cells cs ty) ∧ ty ≠ 125) : AcW lo w' cs l ea ec :=
 ⟨h.cells, fun j a hj => own_kept (h.own j a hj) hg hr, h.sz, h.ap⟩

theorem AcW.snoc {lo B : Nat} {w : World} {cs : List Value} {l : List Sac} {ea : Nat → Option Addr} {ec : Nat → Nat} (h : AcW lo w cs l ea ec) (hl : cs.length = l.length * 8) (hB : ∀ (j : Nat) a k, l[j]? = some a → (Value.slice (ea j) a.ends.length (ec j)).ownBlock = some k → k < B) {a : Sac} {ae : Option Addr} {ce : Nat} (ho : w.ownsRow B 125 2 (.slice ae a.ends.length ce) a.ends.length (enV a.ends)) (hlo : lo ≤ B) (hz : a.service.size ≤ maxLen) :
  AcW lo w (cs ++ [.string a.service, .int .i64 a.seen, .int .i64 a.create, .int .i64 a.want, .int .i64 a.cool, .bool a.scale, .slice ae a.ends.length ce, .bool a.drop]) (l ++ [a]) (fun j => if j = l.length then ae else ea j) (fun j => if j = l.length then ce else ec j) := by
 have at_ : ∀ (j : Nat) c, (l ++ [a])[j]? = some c → (j < l.length ∧ l[j]? = some c) ∨ (j = l.length ∧ c = a) := by
  intro j c hj
  by_cases hlt : j < l.length
  ·rw [List.getElem?_append_left hlt] at hj
   exact .inl ⟨hlt, hj⟩
  ·have hje : j = l.length := by have := lt_of_some hj; simp at this; omega
   subst hje
   simp at hj
   exact .inr ⟨rfl, hj.symm⟩
 refine ⟨fun j c hj i u hu => ?_, fun j c hj => ?_, fun j c hj => ?_, fun i j c d k hne hi hj h1 h2 => ?_⟩
 ·rcases at_ j c hj with ⟨hlt, hc⟩ | ⟨rfl, rfl⟩
  ·rw [if_neg (by omega), if_neg (by omega)] at hu
   have hi : i < 8 := lt_of_some hu
   rw [List.getElem?_append_left (by rw [hl]; omega)]
   exact h.cells j c hc i u hu
  ·rw [if_pos rfl, if_pos rfl] at hu
   rw [List.getElem?_append_right (by rw [hl]; omega), hl, Nat.add_sub_cancel_left]
   exact hu
 ·rcases at_ j c hj with ⟨hlt, hc⟩ | ⟨rfl, rfl⟩
  ·show World.ownsRow _ _ _ _ (.slice (if j = l.length then ae else ea j) _ (if j = l.length then ce else ec j)) _ _
   rw [if_neg (by omega), if_neg (by omega)]
   exact h.own j c hc
  ·show World.ownsRow _ _ _ _ (.slice (if _ = l.length then ae else ea _) _ (if _ = l.length then ce else ec _)) _ _
   rw [if_pos rfl, if_pos rfl]
   exact own_mono ho hlo
 ·rcases at_ j c hj with ⟨hlt, hc⟩ | ⟨rfl, rfl⟩
  ·exact h.sz j c hc
  ·exact hz
 ·have new : ∀ k, (Value.slice ae a.ends.length ce).ownBlock = some k → B ≤ k := fun k e => (ho.lt k e).1
  rcases at_ i c hi with ⟨hl1, hc⟩ | ⟨rfl, rfl⟩ <;> rcases at_ j d hj with ⟨hl2, hd⟩ | ⟨rfl, rfl⟩
  ·rw [if_neg (by omega), if_neg (by omega)] at h1 h2
   exact h.ap i j c d k hne hc hd h1 h2
  ·rw [if_neg (by omega), if_neg (by omega)] at h1
   rw [if_pos rfl, if_pos rfl] at h2
   have := hB i c k hc h1
   have := new k h2
   omega
  ·rw [if_pos rfl, if_pos rfl] at h1
   rw [if_neg (by omega), if_neg (by omega)] at h2
   have := hB j d k hd h2
   have := new k h1
   omega
  ·exact hne rfl

theorem own_ens {w : World} {base : Nat} {ae : Option Addr} {ce : Nat} {l : List Sen} (h : w.ownsRow base 125 2 (.slice ae l.length ce) l.length (enV l)) (hm : l.length ≤ maxLen) : SliceC SenC 2 base w ae l := by
 rcases h.2 with ⟨h9, h8⟩ | ⟨g9, c9, cur, h9, _⟩
 ·have : l = [] := List.length_eq_zero_iff.1 h8
  subst this
  exact ⟨Nat.zero_le _, .inl rfl⟩
 ·cases h9
  exact row_ens h hm

theorem AcW.ans {lo : Nat} {w : World} {cs : List Value} {l : List Sac} {ea : Nat → Option Addr} {ec : Nat → Nat} (h : AcW lo w cs l ea ec) {a : Option Addr} {q : Nat} (hrow : w.ownsRow lo 47 8 (.slice a l.length q) l.length cs) (hs : SmA l) : AnsL lo w a l := by
 rcases hrow.2 with ⟨h9, h8⟩ | ⟨g, cap, cur, h9, hb, hg, _⟩
 ·have : l = [] := List.length_eq_zero_iff.1 h8
  subst this
  exact ⟨⟨Nat.zero_le _, .inl rfl⟩, .inl rfl⟩
 ·cases h9
  have hl8 := hs.len
  have key : ∀ (j : Nat) a, l[j]? = some a → ∀ i u, i < 8 → ([.string a.service, .int .i64 a.seen, .int .i64 a.create, .int .i64 a.want, .int .i64 a.cool, .bool a.scale, .slice (ea j) a.ends.length (ec j), .bool a.drop] : List Value)[i]? = some u → w.cell? ⟨g, 0 + j * 8 + i, none⟩ = some u := by
   intro j a hj i u hi hu
   have hlt := lt_of_some hj
   have := hrow.cellAt (j * 8 + i) (by omega)
   rw [h.cells j a hj i u hu] at this
   simpa using this
  have hen : ∀ (j : Nat) a, l[j]? = some a → a.ends.length ≤ maxLen := fun j a hj => by
   have := (hs.each a (List.mem_of_getElem? hj)).2
   unfold maxLen
   omega
  have hlen : cs.length = l.length * 8 := hrow.1
  refine ⟨⟨by unfold maxLen; omega, .inr ⟨g, 0, rfl, ⟨hb, fun _ p => hrow.frozenAt p⟩, (Array.getElem?_eq_some_iff.1 hg).1, fun j a hj => ?_⟩⟩, .inr ⟨g, ea, ec, rfl, hb, ⟨(Array.getElem?_eq_some_iff.1 hg).1, ⟨fun t ht => ?_, fun p => hrow.frozenAt p⟩, fun j n hj => ?_, fun j n hj hn => ?_, fun i j n m b p c q' hne hi hj hn hm h1 h2 e => ?_⟩, fun j n b o hj hn e => ?_⟩⟩
  ·exact ⟨ea j, ec j, key j a hj 0 _ (by omega) rfl, key j a hj 1 _ (by omega) rfl, key j a hj 2 _ (by omega) rfl, key j a hj 3 _ (by omega) rfl, key j a hj 4 _ (by omega) rfl, key j a hj 5 _ (by omega) rfl, key j a hj 6 _ (by omega) rfl, key j a hj 7 _ (by omega) rfl, h.sz j a hj, own_ens (h.own j a hj) (hen j a hj)⟩
  ·rw [List.length_map] at ht
   have := hrow.cellAt t (by omega)
   rw [List.getElem?_eq_getElem (by omega)] at this
   exact ⟨_, by simpa using this⟩
  ·obtain ⟨a, ha, rfl⟩ : ∃ a, l[j]? = some a ∧ a.ends.length = n := by simpa using hj
   have := key j a ha 6 _ (by omega) rfl
   simpa using this
  ·obtain ⟨a, ha, rfl⟩ : ∃ a, l[j]? = some a ∧ a.ends.length = n := by simpa using hj
   have ho := h.own j a ha
   rcases ho.2 with ⟨_, k8⟩ | ⟨g9, c9, cur9, k9, _, hg9, _⟩
   ·omega
   ·have hea : ea j = some ⟨g9, 0, none⟩ := by injection k9
    rw [hea] at ho
    refine ⟨g9, 0, hea, fun e => ?_, fun t ht => ?_, fun p => ?_⟩
    ·rw [e] at hg9
     rw [hg] at hg9
     cases hg9
    ·have hlv : (enV a.ends).length = a.ends.length * 2 := enV_len _
     have := ho.cellAt t (by omega)
     rw [List.getElem?_eq_getElem (by omega)] at this
     exact ⟨_, by simpa using this⟩
    ·exact ho.frozenAt p
  ·obtain ⟨a, ha, rfl⟩ : ∃ a, l[i]? = some a ∧ a.ends.length = n := by simpa using hi
   obtain ⟨d, hd, rfl⟩ : ∃ d, l[j]? = some d ∧ d.ends.length = m := by simpa using hj
   subst e
   exact h.ap i j a d b hne ha hd (by rw [h1]; rfl) (by rw [h2]; rfl)
  ·obtain ⟨a, ha, rfl⟩ : ∃ a, l[j]? = some a ∧ a.ends.length = n := by simpa using hj
   exact ((h.own j a ha).lt b (by rw [e]; rfl)).1

end Go.Proofs.YtnggdpjfmpjlhaaGreat

namespace Go.Proofs.YtnggdpjfmpjlhaaGreat
open Go.RowKit

theorem AcW.lower {lo lo' : Nat} {w : World} {cs : List Value} {l : List Sac} {ea : Nat → Option Addr} {ec : Nat → Nat} (h : AcW lo w cs l ea ec) (hl : lo' ≤ lo) : AcW lo' w cs l ea ec := ⟨h.cells, fun j a hj => own_mono (h.own j a hj) hl, h.sz, h.ap⟩
theorem isStew_any (kd : Int) (w : World) :
  Calls Tryz.prog 22 #[.int .i64 kd] w fun e w' => e = .returned (.bool (inR kd 1 6)) ∧ w' = w := by
 go_enter Tryz.func22, Tryz.ntmps22
 go_wp2_with (go_at_call 57; refine (inP_any _ _ _ _).mono ?_; rintro e w' ⟨rfl, e9⟩; rw [e9]; clear e9 w')
 go_ret
 exact ⟨rfl, rfl⟩
theorem own_none (w : World) (lo : Nat) : w.ownsRow lo 47 8 (.slice none 0 0) 0 [] := World.ownsRow_nil _ _ _ _

set_option maxHeartbeats 8000000 in
set_option maxRecDepth 100000 in
theorem implAsk_any (x : Sbk) (a1 : Option Addr) (c1 : Nat) (b2 o2 c2 : Nat) (a3 : Option Addr) (c3 : Nat) (lo : Nat) (kd : Int) (w : World) (n1 : SliceC SsvC 13 lo w a1 x.services) (n2 : SliceC ScpC 7 lo w (some ⟨b2, o2, none⟩) x.copies) (n3 : SliceC SbtC 2 lo w a3 x.berths) (hcap : x.copies.length ≤ c2) (hw : NumOk x) :
  Calls Tryz.prog 7 #[.int .i64 kd, .agg #[.int .i64 x.now, .slice a1 x.services.length c1, .slice (some ⟨b2, o2, none⟩) x.copies.length c2, .slice a3 x.berths.length c3]] w fun e w' => ImRes kd x w e w' := by
 obtain ⟨i0, hi, hz0, hz1, hz2⟩ := info_parts info_Sac
 have HN1 := Hid.intro n1
 have HN2 := Hid.intro n2
 have HN3 := Hid.intro n3
 have HCAP := Hid.intro hcap
 have HW := Hid.intro hw
 clear n1 n2 n3 hcap hw
 have hb1 : Below w.heap.size w (w.alloc (Obj.cells #[.int .i64 x.now, .slice a1 x.services.length c1, .slice (some ⟨b2, o2, none⟩) x.copies.length c2, .slice a3 x.berths.length c3] 34)) := by go_grown
 have HB1 : Hid (Blk w.heap.size #[.int .i64 x.now, .slice a1 x.services.length c1, .slice (some ⟨b2, o2, none⟩) x.copies.length c2, .slice a3 x.berths.length c3] 34 (w.alloc (Obj.cells #[.int .i64 x.now, .slice a1 x.services.length c1, .slice (some ⟨b2, o2, none⟩) x.copies.length c2, .slice a3 x.berths.length c3] 34))) := Blk.alloc _ _ _
 go_enter Tryz.func7, Tryz.ntmps7
 go_upto_region 1 with fail
 generalize w.alloc (Obj.cells #[.int .i64 x.now, .slice a1 x.services.length c1, .slice (some ⟨b2, o2, none⟩) x.copies.length c2, .slice a3 x.berths.length c3] 34) = w1 at *
 go_wp2_with (refine wpList_load_mid rfl 34 _ rfl w.heap.size 0 (by first | rfl | (simp [go_sem]; done)) [.int .i64 x.now, .slice a1 x.services.length c1, .slice (some ⟨b2, o2, none⟩) x.copies.length c2, .slice a3 x.berths.length c3] _ HB1.out.rangeA Tryz.underlying34 rfl isz_Sbk ?_)
 refine (findValid_any x a1 c1 (some ⟨b2, o2, none⟩) c2 a3 c3 lo _ (HN1.out.below SsvC.holds hb1 (Nat.le_refl _)) (HN2.out.below ScpC.holds hb1 (Nat.le_refl _)) (HN3.out.below SbtC.holds hb1 (Nat.le_refl _)) HW.out).mono ?_
 rintro e w3 ⟨hr, hb⟩
 have hB3 := hb1.trans (hb.mono hb1.size)
 clear hb hb1 HB1
 rcases hr with ⟨hn, rfl⟩ | ⟨hv, p, m, n, rfl, hF⟩
 ·have HNV := Hid.intro hn
  clear hn
  go_wp2_with fail
  go_ret
  exact ⟨none, 0, [], rfl, fun h => absurd h HNV.out, fun _ => rfl, ⟨⟨Nat.zero_le _, .inl rfl⟩, .inl rfl⟩, hB3⟩
 have HV := Hid.intro hv
 have HF := Hid.intro hF
 have hls := hv.l1
 clear hv hF
 cases hin : inR kd 1 6 with
 | false =>
  have HEM : Hid (askL kd x = []) := ask_other (fun h => by
   have : inR kd 1 6 = true := by unfold inR; simp; exact h
   rw [hin] at this
   cases this)
  go_wp2_with (go_at_call 22; refine (isStew_any _ _).mono ?_; rintro e w' ⟨rfl, e9⟩; rw [e9, hin]; clear e9 w')
  go_ret
  exact ⟨none, 0, [], rfl, fun _ => HEM.out.symm, fun _ => rfl, ⟨⟨Nat.zero_le _, .inl rfl⟩, .inl rfl⟩, hB3⟩
 | true =>
  have hkd : 1 ≤ kd ∧ kd ≤ 6 := by unfold inR at hin; simp at hin; exact hin
  obtain ⟨f, HFF⟩ : ∃ f : Nat → List Sac, Hid (f = fun k => ((x.services.take k).map (actA kd x)).filter asksB) := ⟨_, rfl⟩
  have HF0 : Hid (f 0 = []) := by show _ = _; rw [HFF.out]; rfl
  have HFL : Hid (∀ k, (f k).length ≤ 8) := by intro k; rw [HFF.out]; have := ask_len kd x k; show (List.filter _ _).length ≤ 8; omega
  have HFE : Hid (f x.services.length = askL kd x) := by show _ = _; rw [HFF.out]; show List.filter _ (List.map _ (List.take _ _)) = _; rw [List.take_length]; rfl
  have k1 : w3.cell? ⟨p, 1, none⟩ = some (.slice a1 x.services.length c1) := HF.out.blk.cell rfl
  go_wp2_with (go_at_call 22; refine (isStew_any _ _).mono ?_; rintro e w' ⟨rfl, e9⟩; rw [e9, hin]; clear e9 w')
  clear k1 hin
  go_loopw [7, 30] (fun u i wr => ∃ (k : Nat) (a : Option Addr) (q : Nat) (cs : List Value) (ea : Nat → Option Addr) (ec : Nat → Nat), k ≤ x.services.length ∧ i = .int .i64 k ∧ u = .slice a (f k).length q ∧ Hid (wr.ownsRow w3.heap.size 47 8 (.slice a (f k).length q) (f k).length cs) ∧ Hid (AcW w3.heap.size wr cs (f k) ea ec) ∧ Below w3.heap.size w3 wr) (fun _ i _ => x.services.length - (intOf i).toNat)
  case atStart => exact ⟨0, none, 0, [], fun _ => none, fun _ => 0, Nat.zero_le _, rfl, by rw [HF0.out]; rfl, by rw [HF0.out]; exact own_none _ _, by rw [HF0.out]; exact AcW.nil _ _, Below.refl _ _⟩
  case round =>
   clear HF0
   obtain ⟨k, a, q, cs, ea, ec, hk, rfl, rfl, hO, HAC, hbel⟩ := hrel
   by_cases hlt : k < x.services.length
   case neg =>
    have hke : k = x.services.length := by omega
    subst hke
    go_wp2_with fail
    go_ret
    have hsm := ask_small HV.out kd
    rw [← HFE.out] at hsm
    exact ⟨a, q, f x.services.length, rfl, fun _ => HFE.out, fun h => absurd HV.out h, (HAC.out.lower hB3.size).ans (own_mono hO.out hB3.size) hsm, hB3.trans (hbel.mono hB3.size)⟩
   obtain ⟨v, hy⟩ : ∃ v, x.services[k]? = some v := ⟨x.services[k], List.getElem?_eq_getElem hlt⟩
   have HFr := Hid.intro (HF.out.below hbel)
   obtain ⟨b1, o1, rfl, _, hb1, hcc⟩ := HFr.out.n1.at hy
   have HRY := Hid.intro (rngSsv hcc)
   have hz0y : v.name.size ≤ maxLen := by obtain ⟨_, _, _, _, _, _, _, _, _, _, _, _, _, z⟩ := hcc; exact z
   have hmv : v ∈ x.services := List.mem_of_getElem? hy
   have HNY : Hid (SvNum v) := svNum (HV.out.s1 k v hy)
   have HSM : Hid (0 ≤ v.want ∧ v.want ≤ 10 ∧ 0 ≤ v.down ∧ v.down ≤ 10) := sv_small (HV.out.s1 k v hy)
   have HNM : Hid (v.name.size ≤ 200) := by
    have h3 := HV.out.s1 k v hy
    unfold svB at h3
    simp only [Bool.and_eq_true] at h3
    have := name_small h3.1.1.1.1.1.1.1.1
    show _ ≤ _
    omega
   have HST : Hid (f (k + 1) = f k ++ (if asksB (actA kd x v) = true then [actA kd x v] else [])) := by show _ = _; rw [HFF.out]; exact ask_step hy
   have hact := act_eq HV.out hmv hkd
   have hno := noth_eq v (create_nonneg x v kd (lvN x v : Nat))
   rw [← hact] at hno
   have hfl := HFL.out k
   have HLV : Hid (0 ≤ ((lvN x v : Nat) : Int) ∧ ((lvN x v : Nat) : Int) ≤ 200) := by
    have h1 : lvN x v ≤ x.copies.length := by
     unfold lvN
     rw [lvF_eq]
     exact Nat.le_trans (List.length_filter_le _ _) (List.length_filter_le _ _)
    have h2 := HV.out.l2
    exact ⟨by omega, by omega⟩
   clear hcc hy hmv
   obtain ⟨A, HAA⟩ : ∃ A, Hid (caP kd x v (cntL x.copies v.name v.image) (lvN x v : Nat) = A) := ⟨_, rfl⟩
   rw [HAA.out] at hact hno
   rw [hno, hact] at HST
   clear hact hno
   obtain ⟨M, HM⟩ : ∃ M, Hid (M = f k) := ⟨_, rfl⟩
   rw [← HM.out] at hO HAC HST hfl ⊢
   have hza : Blk wr.heap.size #[.string ⟨#[]⟩, .int .i64 0, .bool false, .int .i64 0, .int .i64 0, .int .i64 0, .int .i64 0, .int .i64 0, .int .i64 0, .int .i64 0, .int .i64 0, .int .i64 0, .int .i64 0] 50 (wr.alloc (Obj.cells #[.string ⟨#[]⟩, .int .i64 0, .bool false, .int .i64 0, .int .i64 0, .int .i64 0, .int .i64 0, .int .i64 0, .int .i64 0, .int .i64 0, .int .i64 0, .int .i64 0, .int .i64 0] 50)) := Blk.alloc _ _ _
   have HTS : Hid ((wr.alloc (Obj.cells #[.string ⟨#[]⟩, .int .i64 0, .bool false, .int .i64 0, .int .i64 0, .int .i64 0, .int .i64 0, .int .i64 0, .int .i64 0, .int .i64 0, .int .i64 0, .int .i64 0, .int .i64 0] 50)).there wr.heap.size 0 13) := hza.there
   obtain ⟨w4, HW4⟩ : ∃ w4, Hid (w4 = (wr.alloc (Obj.cells #[.string ⟨#[]⟩, .int .i64 0, .bool false, .int .i64 0, .int .i64 0, .int .i64 0, .int .i64 0, .int .i64 0, .int .i64 0, .int .i64 0, .int .i64 0, .int .i64 0, .int .i64 0] 50)).setCells wr.heap.size 0 [.string v.name, .int .i64 v.version, .bool v.gone, .int .i64 v.image, .int .i64 v.want, .int .i64 v.down, .int .i64 v.over, .int .i64 v.next, .int .i64 v.per, .int .i64 v.least, .int .i64 v.most, .int .i64 v.load, .int .i64 v.cool]) := ⟨_, rfl⟩
   have HX4 : Hid (Blk wr.heap.size #[.string v.name, .int .i64 v.version, .bool v.gone, .int .i64 v.image, .int .i64 v.want, .int .i64 v.down, .int .i64 v.over, .int .i64 v.next, .int .i64 v.per, .int .i64 v.least, .int .i64 v.most, .int .i64 v.load, .int .i64 v.cool] 50 w4) := by
    show Blk _ _ _ _
    rw [HW4.out]
    exact hza.setAll #[.string v.name, .int .i64 v.version, .bool v.gone, .int .i64 v.image, .int .i64 v.want, .int .i64 v.down, .int .i64 v.over, .int .i64 v.next, .int .i64 v.per, .int .i64 v.least, .int .i64 v.most, .int .i64 v.load, .int .i64 v.cool] rfl
   have hb4 : Below wr.heap.size wr w4 := by
    rw [HW4.out]
    exact below_setCells (Nat.le_refl _) _ _ _ ((Below.refl _ wr).alloc (Nat.le_refl _) _)
   have HF4 := Hid.intro (HFr.out.below hb4)
   have ik : (k : Int) < (x.services.length : Int) := by omega
   clear hza
   go_upto_region 8 with (first | (refine wpList_load_mid rfl 50 _ rfl b1 (o1 + k * 13) (by first | rfl | (simp [go_sem]; done)) [.string v.name, .int .i64 v.version, .bool v.gone, .int .i64 v.image, .int .i64 v.want, .int .i64 v.down, .int .i64 v.over, .int .i64 v.next, .int .i64 v.per, .int .i64 v.least, .int .i64 v.most, .int .i64 v.load, .int .i64 v.cool] _ HRY.out Tryz.underlying50 rfl isz_Ssv ?_) | (refine wpList_store_to rfl 50 _ _ rfl wr.heap.size 0 #[.string v.name, .int .i64 v.version, .bool v.gone, .int .i64 v.image, .int .i64 v.want, .int .i64 v.down, .int .i64 v.over, .int .i64 v.next, .int .i64 v.per, .int .i64 v.least, .int .i64 v.most, .int .i64 v.load, .int .i64 v.cool] (by first | rfl | (simp [go_sem]; done)) rfl HTS.out isz_Ssv (by simp [Value.oneCell']) w4 HW4.out ?_))
   clear HTS HW4 HRY HFr ik
   have HR4 := Hid.intro HX4.out.rangeA
   go_wp2_with (refine wpList_load_mid rfl 50 _ rfl wr.heap.size 0 (by first | rfl | (simp [go_sem]; done)) [.string v.name, .int .i64 v.version, .bool v.gone, .int .i64 v.image, .int .i64 v.want, .int .i64 v.down, .int .i64 v.over, .int .i64 v.next, .int .i64 v.per, .int .i64 v.least, .int .i64 v.most, .int .i64 v.load, .int .i64 v.cool] _ HR4.out Tryz.underlying50 rfl isz_Ssv ?_)
   refine (sightOf_any x (some ⟨b1, o1, none⟩) c1 b2 o2 c2 a3 c3 p m n lo v _ HF4.out HV.out HCAP.out HSM.out).mono ?_
   rintro e w5 ⟨qs, rfl, hg5, hq5⟩
   have hb5 : Below wr.heap.size wr w5 := hb4.trans (hg5.1.mono hb4.size)
   have HG5 := Hid.intro hg5
   clear hg5 HX4 HR4
   go_wp2_with fail
   refine (asks_any2 x (some ⟨b1, o1, none⟩) c1 b2 o2 c2 a3 c3 p m n lo qs w4 v (lvN x v : Nat) kd _ HF4.out HV.out HCAP.out HG5.out HNY.out HLV.out hkd HNM.out).mono ?_
   rw [HAA.out]
   rintro e w6 hr6
   have hsz : w3.heap.size ≤ wr.heap.size := hbel.size
   rcases hr6 with ⟨hno, rfl, hb6⟩ | ⟨hno, ae, ce, rfl, ho6, hb6⟩
   ·have HST2 : Hid (f (k + 1) = M) := by show _ = _; rw [HST.out, hno]; simp
    have hB6 : Below wr.heap.size wr w6 := hb5.trans (hb6.mono hb5.size)
    have hza : Blk w6.heap.size #[.string ⟨#[]⟩, .int .i64 0, .int .i64 0, .int .i64 0, .int .i64 0, .bool false, .slice none 0 0, .bool false] 47 (w6.alloc (Obj.cells #[.string ⟨#[]⟩, .int .i64 0, .int .i64 0, .int .i64 0, .int .i64 0, .bool false, .slice none 0 0, .bool false] 47)) := Blk.alloc _ _ _
    have HTX : Hid ((w6.alloc (Obj.cells #[.string ⟨#[]⟩, .int .i64 0, .int .i64 0, .int .i64 0, .int .i64 0, .bool false, .slice none 0 0, .bool false] 47)).there w6.heap.size 0 8) := hza.there
    obtain ⟨w7, HW7⟩ : ∃ w7, Hid (w7 = (w6.alloc (Obj.cells #[.string ⟨#[]⟩, .int .i64 0, .int .i64 0, .int .i64 0, .int .i64 0, .bool false, .slice none 0 0, .bool false] 47)).setCells w6.heap.size 0 [.string ⟨#[]⟩, .int .i64 0, .int .i64 0, .int .i64 0, .int .i64 0, .bool false, .slice none 0 0, .bool false]) := ⟨_, rfl⟩
    have HX7 : Hid (Blk w6.heap.size #[.string ⟨#[]⟩, .int .i64 0, .int .i64 0, .int .i64 0, .int .i64 0, .bool false, .slice none 0 0, .bool false] 47 w7) := by
     show Blk _ _ _ _
     rw [HW7.out]
     exact hza.setAll #[.string ⟨#[]⟩, .int .i64 0, .int .i64 0, .int .i64 0, .int .i64 0, .bool false, .slice none 0 0, .bool false] rfl
    have hb7 : Below w6.heap.size w6 w7 := by
     rw [HW7.out]
     exact below_setCells (Nat.le_refl _) _ _ _ ((Below.refl _ w6).alloc (Nat.le_refl _) _)
    have hB7 : Below wr.heap.size wr w7 := hB6.trans (hb7.mono hB6.size)
    clear hza hb7 hB6 hb6 hb5 hb4 HST hno
    go_upto_region 9 with (refine wpList_store_to rfl 47 _ _ rfl w6.heap.size 0 #[.string ⟨#[]⟩, .int .i64 0, .int .i64 0, .int .i64 0, .int .i64 0, .bool false, .slice none 0 0, .bool false] (by first | rfl | (simp [go_sem]; done)) rfl HTX.out isz_Sac (by simp [Value.oneCell']) w7 HW7.out ?_)
    clear HTX HW7 HX7
    go_wp2_with fail
    go_roundw
    case rel => exact ⟨k + 1, a, q, cs, ea, ec, by omega, by go_num, by rw [HST2.out], by rw [HST2.out]; exact ownsRow_below hO.out hB7, by rw [HST2.out]; exact HAC.out.kept (grown_below hB7) (fun r e => by cases e), hbel.trans (hB7.mono hsz)⟩
    case measure => simp [intOf]; omega
   ·have HST2 : Hid (f (k + 1) = M ++ [setA A v]) := by show _ = _; rw [HST.out, hno]; simp
    have hB6 : Below wr.heap.size wr w6 := hb5.trans (hb6.mono hb5.size)
    have hza : Blk w6.heap.size #[.string ⟨#[]⟩, .int .i64 0, .int .i64 0, .int .i64 0, .int .i64 0, .bool false, .slice none 0 0, .bool false] 47 (w6.alloc (Obj.cells #[.string ⟨#[]⟩, .int .i64 0, .int .i64 0, .int .i64 0, .int .i64 0, .bool false, .slice none 0 0, .bool false] 47)) := Blk.alloc _ _ _
    have HTX : Hid ((w6.alloc (Obj.cells #[.string ⟨#[]⟩, .int .i64 0, .int .i64 0, .int .i64 0, .int .i64 0, .bool false, .slice none 0 0, .bool false] 47)).there w6.heap.size 0 8) := hza.there
    obtain ⟨w7, HW7⟩ : ∃ w7, Hid (w7 = (w6.alloc (Obj.cells #[.string ⟨#[]⟩, .int .i64 0, .int .i64 0, .int .i64 0, .int .i64 0, .bool false, .slice none 0 0, .bool false] 47)).setCells w6.heap.size 0 [.string v.name, .int .i64 v.version, .int .i64 A.create, .int .i64 A.want, .int .i64 A.cool, .bool A.scale, .slice ae A.ends.length ce, .bool A.drop]) := ⟨_, rfl⟩
    have HX7 : Hid (Blk w6.heap.size #[.string v.name, .int .i64 v.version, .int .i64 A.create, .int .i64 A.want, .int .i64 A.cool, .bool A.scale, .slice ae A.ends.length ce, .bool A.drop] 47 w7) := by
     show Blk _ _ _ _
     rw [HW7.out]
     exact hza.setAll #[.string v.name, .int .i64 v.version, .int .i64 A.create, .int .i64 A.want, .int .i64 A.cool, .bool A.scale, .slice ae A.ends.length ce, .bool A.drop] rfl
    have hb7 : Below w6.heap.size w6 w7 := by
     rw [HW7.out]
     exact below_setCells (Nat.le_refl _) _ _ _ ((Below.refl _ w6).alloc (Nat.le_refl _) _)
    have hB7 : Below wr.heap.size wr w7 := hB6.trans (hb7.mono hB6.size)
    have hbn : Below w7.heap.size w7 (w7.alloc (Obj.cells #[.string v.name, .int .i64 v.version, .int .i64 A.create, .int .i64 A.want, .int .i64 A.cool, .bool A.scale, .slice ae A.ends.length ce, .bool A.drop] 47)) := (Below.refl _ _).alloc (Nat.le_refl _) _
    have HB8 : Hid (Below wr.heap.size wr (w7.alloc (Obj.cells #[.string v.name, .int .i64 v.version, .int .i64 A.create, .int .i64 A.want, .int .i64 A.cool, .bool A.scale, .slice ae A.ends.length ce, .bool A.drop] 47))) := hB7.trans (hbn.mono hB7.size)
    have HNB : Hid (Blk w7.heap.size #[.string v.name, .int .i64 v.version, .int .i64 A.create, .int .i64 A.want, .int .i64 A.cool, .bool A.scale, .slice ae A.ends.length ce, .bool A.drop] 47 (w7.alloc (Obj.cells #[.string v.name, .int .i64 v.version, .int .i64 A.create, .int .i64 A.want, .int .i64 A.cool, .bool A.scale, .slice ae A.ends.length ce, .bool A.drop] 47))) := Blk.alloc _ _ _
    have HE8 := Hid.intro (ownsRow_below (ownsRow_below ho6 hb7) hbn)
    have HO8 := Hid.intro (ownsRow_below hO.out HB8.out)
    have HR7 := Hid.intro HX7.out.rangeA
    have HOB : Hid (∀ (j : Nat) c k, M[j]? = some c → (Value.slice (ea j) c.ends.length (ec j)).ownBlock = some k → k < w5.heap.size) := fun j c k hj e => Nat.lt_of_lt_of_le ((HAC.out.own j c hj).lt k e).2 hb5.size
    have HC8 := Hid.intro (HAC.out.kept (grown_below HB8.out) (fun r e => by cases e))
    have hs5 : w3.heap.size ≤ w5.heap.size := Nat.le_trans hsz hb5.size
    have hs8 : w3.heap.size ≤ (w7.alloc (Obj.cells #[.string v.name, .int .i64 v.version, .int .i64 A.create, .int .i64 A.want, .int .i64 A.cool, .bool A.scale, .slice ae A.ends.length ce, .bool A.drop] 47)).heap.size := Nat.le_trans hsz HB8.out.size
    clear hza hb7 hB6 hb6 hb5 hb4 HST hno hB7 hbn ho6 hO HAC
    go_upto_region 9 with (refine wpList_store_to rfl 47 _ _ rfl w6.heap.size 0 #[.string v.name, .int .i64 v.version, .int .i64 A.create, .int .i64 A.want, .int .i64 A.cool, .bool A.scale, .slice ae A.ends.length ce, .bool A.drop] (by first | rfl | (simp [go_sem]; done)) rfl HTX.out isz_Sac (by simp [Value.oneCell']) w7 HW7.out ?_)
    clear HTX HW7 HX7
    go_wp2_with (first | (refine wpList_load_mid rfl 47 _ rfl w6.heap.size 0 (by first | rfl | (simp [go_sem]; done)) [.string v.name, .int .i64 v.version, .int .i64 A.create, .int .i64 A.want, .int .i64 A.cool, .bool A.scale, .slice ae A.ends.length ce, .bool A.drop] _ HR7.out Tryz.underlying47 rfl isz_Sac ?_) | (at_builtin; refine wpList_append_lies _ rfl (.tmp 43) (.tmp 45) 28 rfl w3.heap.size 47 i0 _ 8 88 Tryz.underlying28 hi hz0 hz1 hz2 rfl (by decide) _ M.length _ rfl HO8.out ⟨w7.heap.size, 0, none⟩ 1 1 [.string v.name, .int .i64 v.version, .int .i64 A.create, .int .i64 A.want, .int .i64 A.cool, .bool A.scale, .slice ae A.ends.length ce, .bool A.drop] rfl rfl (blk_news HNB.out) (by intro u hu; simp at hu; rcases hu with rfl | rfl | rfl | rfl | rfl | rfl | rfl | rfl <;> rfl) (by omega) (by unfold maxLen; omega) (by omega) hs8 _ rfl ?_; intro g2 cap2 w9 hown hgrow hto hgl; have HOW := Hid.intro hown; have HGR := Hid.intro hgrow; clear hown hgrow hto hgl))
    have hrw : ∀ r, (Value.slice a M.length q).ownBlock = some r → w3.heap.size ≤ r ∧ ∃ cs, (w7.alloc (Obj.cells #[.string v.name, .int .i64 v.version, .int .i64 A.create, .int .i64 A.want, .int .i64 A.cool, .bool A.scale, .slice ae A.ends.length ce, .bool A.drop] 47)).heap[r]? = some (Obj.cells cs 47) := fun r e => by
     rcases HO8.out.2 with ⟨h9, _⟩ | ⟨g9, c9, cur, h9, hb9, hg9, _⟩
     ·rw [h9] at e; cases e
     ·rw [h9] at e; cases e; exact ⟨hb9, cur, hg9⟩
    have hrt : ∀ r, (Value.slice a M.length q).ownBlock = some r → ∃ cs ty, (w7.alloc (Obj.cells #[.string v.name, .int .i64 v.version, .int .i64 A.create, .int .i64 A.want, .int .i64 A.cool, .bool A.scale, .slice ae A.ends.length ce, .bool A.drop] 47)).heap[r]? = some (Obj.cells cs ty) ∧ ty ≠ 125 := fun r e => by
     obtain ⟨_, cs, h9⟩ := hrw r e
     exact ⟨cs, _, h9, by decide⟩
    have HAC9 := (HC8.out.kept HGR.out hrt).snoc (a := setA A v) (ae := ae) (ce := ce) HO8.out.1 HOB.out (own_kept HE8.out HGR.out hrt) hs5 hz0y
    have hB9 : Below w3.heap.size w3 w9 := (hbel.trans (HB8.out.mono hsz)).grown HGR.out (hbel.trans (HB8.out.mono hsz)).size (fun r e => (hrw r e).1)
    go_roundw
    case rel => exact ⟨k + 1, some ⟨g2, 0, none⟩, cap2, _, _, _, by omega, by go_num, by rw [HST2.out, List.length_append]; rfl, by rw [HST2.out, List.length_append]; exact HOW.out, by rw [HST2.out]; exact HAC9, hB9⟩
    case measure => simp [intOf]; omega

end Go.Proofs.YtnggdpjfmpjlhaaGreat
