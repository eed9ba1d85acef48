/-
  The queue by the specification. Made by mkhqs.py.
-/
import Derived.Test.YtggbhggnemlpnaaGreatHqa
import Derived.Test.YtggbhggnemlpnaaGreatJ8
import Derived.Maps.AppendAt
import Derived.Deep.AppendLies
import Derived.Deep.RegionHeld3
namespace Go.Proofs.YtggbhggnemlpnaaGreat
open Go.RowKit Go.WideMaps Go.Maps

theorem wp_append_at {P : Program} {op : Oper} {a : Act} {w : World} {K : Act → World → Prop} {Q : Exit → Act → World → Prop} (s x : Operand) (t : TypeId)
    (ho : op.op = .call { callee := .builtin .append, args := #[s, x], argTypes := #[t, t] })
    (base : Nat) (e : TypeId) (i : TypeInfo) (z : Value) (size bytes : Nat) (ht : P.underlying t = some (.slice e)) (hi : P.info? e = some i) (hz : i.zero = some z)
    (hsize : i.size = size) (hby : i.bytes = bytes) (hzs : z.cells.size = size) (hsz : 0 < size)
    (v : Value) (n : Nat) (xs : List Value) (hs : a.eval s = v) (hown : w.ownsRow base e size v n xs)
    (ad : Addr) (m c : Nat) (news : List Value) (hx : a.eval x = .slice (some ad) m c) (hl : news.length = m * size) (hnews : ∀ j u, news[j]? = some u → w.cell? (ad.add j) = some u) (h1 : ∀ u ∈ news, u.oneCell' = true)
    (h63 : n + m ≤ maxLen) (hbytes : (n + m) * bytes ≤ 140737488355328) (hbase : base ≤ w.heap.size)
    (h : ∀ v' w', w'.ownsRow base e size v' (n + m) (xs ++ news) → w.grownBy w' v.ownBlock → (v' = .slice none 0 0 ↔ v = .slice none 0 0 ∧ m = 0) → (v'.ownBlock = v.ownBlock ∨ v'.ownBlock = some w.heap.size) → K (a.put op.dst v') w') : op.wp P a w K Q := by
  obtain ⟨v', w', hr, h2, h3, h4, h5⟩ := run_append_own_at (P := P) w base t op.type e i z size bytes ht hi hz hsize hby hzs hsz v n xs hown ad m c news hl hnews h1 h63 hbytes hbase
  unfold Oper.wp
  simp [execOp, ho, resolve, invoke, builtin, hs, hx, hr, Result.andThen]
  exact h v' w' h2 h3 h4 h5

theorem blk_grownR {p b : Nat} {cs : Array Value} {t : TypeId} {w w' : World} (h : Blk p cs t w) (hg : w.grownBy w' (some b)) (hne : p ≠ b) : Blk p cs t w' :=
  (hg.block p h.lt (fun e => hne (Option.some.inj e))).trans h

theorem own_mono {base base' : Nat} {e : TypeId} {size : Nat} {v : Value} {n : Nat} {xs : List Value} {w : World} (h : w.ownsRow base e size v n xs) (hb : base' ≤ base) : w.ownsRow base' e size v n xs := by
  refine ⟨h.1, ?_⟩
  rcases h.2 with h1 | ⟨g, cap, cur, h1, h2, h3⟩
  · exact .inl h1
  · exact .inr ⟨g, cap, cur, h1, Nat.le_trans hb h2, h3⟩

theorem get_take {α : Type} {l : List α} {j t : Nat} {a : α} (h : (l.take j)[t]? = some a) : l[t]? = some a := by
  rw [List.getElem?_take] at h
  split at h
  · exact h
  · cases h

theorem rowfH {base n : Nat} {w : World} {e : TypeId} {s : Nat} {cs : List Value} {v : Value} (h : w.ownsRow base e s v n cs) (hn : v ≠ .slice none 0 0) : ∃ g cap, v = .slice (some ⟨g, 0, none⟩) n cap := by
  rcases h.2 with ⟨h1, _⟩ | ⟨g, cap, cur, h1, _⟩
  · exact absurd h1 hn
  · exact ⟨g, cap, h1⟩

theorem ltF_ah {x : Flt} {a b : Nat} {d c : Cpy} (h1 : x.copies[a]? = some d) (h2 : x.copies[b]? = some c) : ltF (cfQ x) a b = ahW d c := by
  unfold ltF cfQ
  rw [h1, h2]
  exact cmW_ah d c

theorem insQ_at {lt : Nat → Nat → Bool} {k : Nat} : ∀ {j : Nat} {l : List Nat}, j ≤ l.length → (∀ a ∈ l.take j, lt a k = true) → (∀ a, l[j]? = some a → lt a k = false) → insQ lt l k = l.take j ++ k :: l.drop j
  | 0, [], _, _, _ => rfl
  | 0, a :: r, _, _, h => by
    have h0 := h a rfl
    unfold insQ
    rw [List.takeWhile_cons, List.dropWhile_cons, if_neg (by rw [h0]; decide), if_neg (by rw [h0]; decide)]
    rfl
  | j + 1, [], hl, _, _ => by simp at hl
  | j + 1, a :: r, hl, h1, h2 => by
    have ha : lt a k = true := h1 a (by simp)
    have ih := insQ_at (lt := lt) (k := k) (j := j) (l := r) (by simpa using hl) (fun b hb => h1 b (by rw [List.take_succ_cons]; exact List.mem_cons_of_mem _ hb)) (fun b hb => h2 b (by simpa using hb))
    unfold insQ at *
    rw [List.takeWhile_cons, List.dropWhile_cons, if_pos ha, if_pos ha, List.take_succ_cons, List.drop_succ_cons, List.cons_append, ih]
    rfl

/-- names answered -/
def QlRes (l : List ByteArray) (w : World) (e : Ending) (w' : World) : Prop := ∃ a cap, e = .returned (.slice a l.length cap) ∧ SliceC StrC 1 (w.heap.size + 1) w' a l ∧ Below w.heap.size w w'

theorem where3 {x : Flt} {lo : Nat} {w : World} {a3 : Option Addr} (n3 : SliceC CpyC 12 lo w a3 x.copies) : ∃ b3 o3, ∀ (i : Nat) (c : Cpy), x.copies[i]? = some c → a3 = some ⟨b3, o3, none⟩ ∧ b3 < w.heap.size := by
  by_cases h : 0 < x.copies.length
  · obtain ⟨b, o, e, _, hb, _⟩ := n3.at (List.getElem?_eq_getElem h)
    exact ⟨b, o, fun _ _ _ => ⟨e, hb⟩⟩
  · exact ⟨0, 0, fun i c hc => by have := lt_of_some hc; omega⟩

set_option maxHeartbeats 16000000 in
set_option maxRecDepth 100000 in
theorem l5Queue_any (x : Flt) (a1 : Option Addr) (c1 : Nat) (a2 : Option Addr) (c2 : Nat) (a3 : Option Addr) (c3 : Nat) (lo : Nat) (w : World) (n3 : SliceC CpyC 12 lo w a3 x.copies) (l3 : x.copies.length ≤ 60) (hnm : ∀ s ∈ (qTo x x.copies.length).map (nmQ x), s.size ≤ 20) :
    Calls Tryz.prog 25 #[.agg #[.bool x.pack, .slice a1 x.berths.length c1, .slice a2 x.services.length c2, .slice a3 x.copies.length c3]] w fun e w' => QlRes ((qTo x x.copies.length).map (nmQ x)) w e w' := by
  obtain ⟨i0, hi, hz0, hz1, hz2⟩ := info_parts info_Cpy
  obtain ⟨j0, hj, hy0, hy1, hy2⟩ := info_parts info_str
  have HI0 := Hid.intro hi
  have HJ0 := Hid.intro hj
  have N3 := Hid.intro n3
  have HNM := Hid.intro hnm
  obtain ⟨b3, o3, hab⟩ := where3 n3
  have HAB := Hid.intro hab
  clear n3 hi hj hnm hab
  have hb1 : Below w.heap.size w (w.alloc (Obj.cells #[.bool x.pack, .slice a1 x.berths.length c1, .slice a2 x.services.length c2, .slice a3 x.copies.length c3] 34)) := by go_grown
  have HF1 : Hid (FltIn w.heap.size x a1 c1 a2 c2 a3 c3 (w.alloc (Obj.cells #[.bool x.pack, .slice a1 x.berths.length c1, .slice a2 x.services.length c2, .slice a3 x.copies.length c3] 34))) := ⟨by simp, by simp, by simp, by simp⟩
  have hs1 : (w.alloc (Obj.cells #[.bool x.pack, .slice a1 x.berths.length c1, .slice a2 x.services.length c2, .slice a3 x.copies.length c3] 34)).heap.size = w.heap.size + 1 := by simp
  go_enter Tryz.func25, Tryz.ntmps25
  go_upto_region 1 with fail
  generalize w.alloc (Obj.cells #[.bool x.pack, .slice a1 x.berths.length c1, .slice a2 x.services.length c2, .slice a3 x.copies.length c3] 34) = w1 at *
  have HS1 := Hid.intro hs1
  have hb2 : Below w1.heap.size w1 (w1.alloc (Obj.cells #[] 65)) := by go_grown
  have HO2 : Hid ((w1.alloc (Obj.cells #[] 65)).ownsRow w1.heap.size 65 12 (.slice (some ⟨w1.heap.size, 0, none⟩) 0 0) 0 (rvQ x w b3 o3 [])) := World.ownsRow_made w1 #[] 0 (Nat.le_refl _) (Nat.zero_le _) rfl
  clear hs1
  go_upto_region 3 with fail
  generalize w1.alloc (Obj.cells #[] 65) = w2 at *
  obtain ⟨H1, hH1⟩ : ∃ H1, H1 = w1.heap.size := ⟨_, rfl⟩
  have HH1 := Hid.intro hH1
  rw [← hH1] at hb2 HO2 ⊢
  clear hH1
  go_loopw [3, 4] (fun v i wr => ∃ (k g q m : Nat) (L : List Nat), k ≤ x.copies.length ∧ m ≤ k ∧ i = .int .i64 k ∧ v = .slice (some ⟨g, 0, none⟩) m q ∧ Hid (L = qTo x k) ∧ Hid (L.length = m) ∧ Hid (wr.ownsRow H1 65 12 (.slice (some ⟨g, 0, none⟩) m q) m (rvQ x w b3 o3 L)) ∧ Below H1 w1 wr) (fun _ i _ => x.copies.length - (intOf i).toNat)
  case atStart => exact ⟨0, H1, 0, 0, [], Nat.zero_le _, Nat.le_refl _, rfl, rfl, rfl, rfl, HO2, hb2⟩
  case round =>
    clear HO2 hb2
    obtain ⟨k, g, q, m, L, hkk, hmk, rfl, rfl, HL, HLL, HO, hB⟩ := hrel
    have HFr := Hid.intro (HF1.out.below hB (by have h9 := HH1.out; have h8 := HS1.out; omega))
    have f3 := HFr.out.2.2.2
    by_cases hlt : k < x.copies.length
    case neg =>
      have hke : k = x.copies.length := by omega
      subst hke
      clear hlt
      generalize wr = w3 at *
      have hm3 : w.heap.size + 1 ≤ w3.heap.size := by have h9 := HH1.out; have h8 := HS1.out; have h7 := hB.size; omega
      have HBw : Hid (Below w.heap.size w w3) := by
        have h9 := HH1.out
        have h8 := HS1.out
        exact hb1.trans (hB.mono (by omega))
      have HO2 : Hid ((w3.alloc (Obj.cells #[] 9)).ownsRow w3.heap.size 9 1 (.slice (some ⟨w3.heap.size, 0, none⟩) 0 0) 0 (stV [])) := World.ownsRow_made w3 #[] 0 (Nat.le_refl _) (Nat.zero_le _) rfl
      have hb2 : Below w3.heap.size w3 (w3.alloc (Obj.cells #[] 9)) := by go_grown
      have hgl := HO.out.lt g rfl
      go_upto_region 11 with fail
      clear f3 HFr
      generalize w3.alloc (Obj.cells #[] 9) = w5 at *
      go_wp2_with fail
      go_loopw [6, 7] (fun v i wz => ∃ j : Nat, j ≤ m ∧ i = .int .i64 j ∧ Hid (wz.ownsRow w3.heap.size 9 1 v ((L.take j).map (nmQ x)).length (stV ((L.take j).map (nmQ x)))) ∧ Below w3.heap.size w3 wz) (fun _ i _ => m - (intOf i).toNat)
      case atStart => exact ⟨0, Nat.zero_le _, rfl, HO2, hb2⟩
      case round =>
        clear HO2 hb2
        obtain ⟨j, hj, rfl, HOj, hBj⟩ := hrel
        by_cases hjm : j < m
        case neg =>
          have HE : Hid ((L.take j).map (nmQ x) = (qTo x x.copies.length).map (nmQ x)) := by show _ = _; rw [List.take_of_length_le (by have := HLL.out; omega), HL.out]
          rw [HE.out] at HOj
          obtain ⟨av, cv, rfl, hsv⟩ := row_strs HOj.out (fun s hs => by have := HNM.out s hs; unfold maxLen; omega) (by have := qTo_len x x.copies.length; rw [List.length_map]; unfold maxLen; omega)
          have HSV := Hid.intro hsv
          clear hsv
          have hjn : ¬ (j : Int) < (m : Int) := by omega
          go_wp2_with fail
          go_ret
          exact ⟨av, cv, by simp, HSV.out.keep StrC.holds (Keeps.refl _ _) hm3, HBw.out.trans (hBj.mono (by omega))⟩
        obtain ⟨i, hi⟩ : ∃ i, L[j]? = some i := ⟨L[j]'(by have := HLL.out; omega), List.getElem?_eq_getElem _⟩
        have hil : i < x.copies.length := by
          have h9 := List.mem_of_getElem? hi
          rw [HL.out] at h9
          exact qTo_lt h9
        obtain ⟨d, hd⟩ : ∃ d, x.copies[i]? = some d := ⟨x.copies[i]'hil, List.getElem?_eq_getElem _⟩
        have kn : wr.cell? ⟨g, j * 12, none⟩ = some (.string d.name) := by
          have h9 := rowQ_rng HO.out HLL.out.symm hi
          rw [vcQ_at hd] at h9
          exact (hBj.cell (p := ⟨g, j * 12, none⟩) hgl.2).trans (h9 0 _ rfl)
        have HE : Hid ((L.take (j + 1)).map (nmQ x) = (L.take j).map (nmQ x) ++ [d.name]) := by
          show _ = _
          rw [List.take_add_one, hi, List.map_append]
          simp [nmQ_at hd]
        have hln : ((L.take j).map (nmQ x)).length = j := by have := HLL.out; simp; omega
        have hjn : (j : Int) < (m : Int) := by omega
        have hwz := hBj.size
        clear hi hd
        go_wp2_with (first | (at_builtin; refine wpList_append_lies _ rfl (.tmp 64) (.tmp 70) 28 rfl w3.heap.size 9 j0 _ 1 16 Tryz.underlying28 HJ0.out hy0 hy1 hy2 rfl (by decide) _ ((L.take j).map (nmQ x)).length _ rfl (ownsRow_below HOj.out ((Below.refl _ _).alloc (Nat.le_refl _) _)) ⟨wr.heap.size, 0, none⟩ 1 1 [.string d.name] rfl rfl (oneS (by simp)) (by intro u hu; rw [List.mem_singleton.1 hu]; rfl) (by omega) (by unfold maxLen; omega) (by omega) (by simp; omega) _ rfl ?_; intro gn cap w9 hown hgrow hto hgl9))
        go_roundw
        case rel =>
          have hBa : Below w3.heap.size w3 (wr.alloc (Obj.cells #[.string d.name] 9)) := hBj.alloc hBj.size _
          refine ⟨j + 1, by omega, by go_num, ?_, hBa.grown hgrow hBa.size (fun r e => (HOj.out.lt r e).1)⟩
          show World.ownsRow _ _ _ _ _ _ _
          rw [HE.out]
          simpa [stV] using hown
        case measure => simp [intOf]; omega
    obtain ⟨c, hc⟩ : ∃ c, x.copies[k]? = some c := ⟨x.copies[k], List.getElem?_eq_getElem hlt⟩
    obtain ⟨ea, hb3⟩ := HAB.out k c hc
    subst ea
    obtain ⟨la, hla⟩ : ∃ la, la = (lkQ w b3 o3 k).1 := ⟨_, rfl⟩
    obtain ⟨lc, hlc⟩ : ∃ lc, lc = (lkQ w b3 o3 k).2 := ⟨_, rfl⟩
    have hvc : vcQ x w b3 o3 k = [.string c.name, .string c.service, .int .i64 c.rank, .int .i64 c.born, .int .i64 c.room, .int .i64 c.hold, .string c.select, .slice la c.likes.length lc, .int .i64 c.apart, .string c.near, .string c.fixed, .string c.at_] := by rw [vcQ_at hc, hla, hlc]
    have hrc0 : w.rangeAt b3 (o3 + k * 12) [.string c.name, .string c.service, .int .i64 c.rank, .int .i64 c.born, .int .i64 c.room, .int .i64 c.hold, .string c.select, .slice la c.likes.length lc, .int .i64 c.apart, .string c.near, .string c.fixed, .string c.at_] := by rw [← hvc]; exact vcQ_lies N3.out hc
    have HVC := Hid.intro hvc
    have HRC : Hid (∀ wy, Below H1 w1 wy → wy.rangeAt b3 (o3 + k * 12) [.string c.name, .string c.service, .int .i64 c.rank, .int .i64 c.born, .int .i64 c.room, .int .i64 c.hold, .string c.select, .slice la c.likes.length lc, .int .i64 c.apart, .string c.near, .string c.fixed, .string c.at_]) := fun wy hy t u ht => ((hb1.trans (hy.mono (by have h9 := HH1.out; have h8 := HS1.out; omega))).cell (p := ⟨b3, o3 + k * 12 + t, none⟩) hb3).trans (hrc0 t u ht)
    have HCK := Hid.intro hc
    have kat : wr.cell? ⟨b3, o3 + k * 12 + 11, none⟩ = some (.string c.at_) := HRC.out wr hB 11 _ rfl
    clear hvc hrc0 hla hlc hc
    by_cases he : c.at_ = ⟨#[]⟩
    case neg =>
      have HE : Hid (qTo x (k + 1) = L) := by
        show (if wtB x k = true then _ else _) = L
        rw [if_neg (by unfold wtB; rw [HCK.out]; simpa using he), HL.out]
      have hsz : ¬ c.at_.size = 0 := fun e => he (ByteArray.ext (Array.eq_empty_of_size_eq_zero e))
      have hte : c.at_.toList.isEmpty = false := by
        rw [ByteArray.toList_eq]
        cases hl : c.at_.data.toList with
        | nil => exact absurd (by have := congrArg List.length hl; simpa using this) hsz
        | cons _ _ => rfl
      clear he
      go_wp2_with fail
      go_roundw
      case rel => exact ⟨k + 1, g, q, m, L, by omega, by omega, by go_num, rfl, HE.out.symm, HLL, HO, hB⟩
      case measure => simp [intOf]; omega
    have HSN : Hid (qTo x (k + 1) = insQ (ltF (cfQ x)) L k) := by
      show (if wtB x k = true then _ else _) = _
      rw [if_pos (by unfold wtB; rw [HCK.out]; simpa using he), HL.out]
    rw [he] at kat
    clear he
    go_upto_region 6 with fail
    clear kat f3 HFr
    have hqq : m ≤ q := rowQ_le HO.out
    go_wp2_with fail
    go_loopw [5] (fun i wz => ∃ j : Nat, j ≤ m ∧ i = .int .i64 j ∧ Hid (∀ a ∈ L.take j, ltF (cfQ x) a k = true) ∧ Hid (wz.ownsRow H1 65 12 (.slice (some ⟨g, 0, none⟩) m q) m (rvQ x w b3 o3 L)) ∧ Below H1 w1 wz) (fun i _ => m - (intOf i).toNat)
    case atStart => exact ⟨0, Nat.zero_le _, rfl, (fun a ha => by simp at ha), HO, hB⟩
    case round =>
      clear HO hB
      obtain ⟨j, hj, rfl, HA, HO, hB⟩ := hrel
      have hgl := HO.out.lt g rfl
      go_upto_region 7 with fail
      by_cases hjm : j < m
      case neg =>
        have HJE : Hid (j = m) := by show _ = _; omega
        have HID : Hid (insQ (ltF (cfQ x)) L k = L.take j ++ k :: L.drop j) := insQ_at (by have := HLL.out; omega) HA.out (fun a ha => by have h9 := lt_of_some ha; have h8 := HLL.out; have h7 := HJE.out; omega)
        have hjn : ¬ (j : Int) < (m : Int) := by omega
        refine wp_region_held_drew (S := fun wy => Below H1 w1 wy) (by kernel_rfl) hB.drew (fun hS => ?_)
        replace hB := hB.drew
        replace HO := Hid.intro (ownsRow_below HO.out (Below.refl _ wr).drew)
        clear hgl
        generalize wr.drew = wb at *
        refine wpAnyH_take (i := 0) (oi := { dst := some 23, op := _, type := _, pos := _, after := _, guard := none }) (v := .int .i64 j) rfl (by kernel_rfl) (by kernel_rfl) (by kernel_rfl) (fun _ _ _ h => h) (Or.inl ⟨by rfl, ?_⟩) hS ?_
        · intro wy hy
          clear hy
          go_simp
        simp only [Act.put, List.setIfInBounds_toArray, List.set_cons_zero, List.set_cons_succ]
        refine wpAnyH_take (i := 1) (oi := { dst := some 24, op := _, type := _, pos := _, after := _, guard := none }) (v := .slice (some ⟨g, 0, none⟩) m q) rfl (by kernel_rfl) (by kernel_rfl) (by kernel_rfl) (fun _ _ _ h => h) (Or.inl ⟨by rfl, ?_⟩) hS ?_
        · intro wy hy
          clear hy
          go_simp
        simp only [Act.put, List.setIfInBounds_toArray, List.set_cons_zero, List.set_cons_succ]
        refine wpAnyH_take (i := 2) (oi := { dst := some 25, op := _, type := _, pos := _, after := _, guard := none }) (v := .int .i64 m) rfl (by kernel_rfl) (by kernel_rfl) (by kernel_rfl) (fun _ _ _ h => h) (Or.inl ⟨by rfl, ?_⟩) hS ?_
        · intro wy hy
          clear hy
          go_simp
        simp only [Act.put, List.setIfInBounds_toArray, List.set_cons_zero, List.set_cons_succ]
        refine wpAnyH_take (i := 3) (oi := { dst := some 26, op := _, type := _, pos := _, after := _, guard := none }) (v := .bool false) rfl (by kernel_rfl) (by kernel_rfl) (by kernel_rfl) (fun _ _ _ h => h) (Or.inl ⟨by rfl, ?_⟩) hS ?_
        · intro wy hy
          clear hy
          (go_simp; try omega)
        simp only [Act.put, List.setIfInBounds_toArray, List.set_cons_zero, List.set_cons_succ]
        refine wpAnyH_take (i := 4) (oi := { dst := some 27, op := _, type := _, pos := _, after := _, guard := none }) (v := .bool false) rfl (by kernel_rfl) (by kernel_rfl) (by kernel_rfl) (fun _ _ _ h => h) (Or.inl ⟨by rfl, ?_⟩) hS ?_
        · intro wy hy
          clear hy
          go_simp
        simp only [Act.put, List.setIfInBounds_toArray, List.set_cons_zero, List.set_cons_succ]
        refine wpAnyH_take (i := 5) (oi := { dst := some 28, op := _, type := _, pos := _, after := _, guard := some (4, true) }) (v := undef) rfl (by kernel_rfl) (by kernel_rfl) (by kernel_rfl) (fun _ _ _ h => h) (Or.inr ⟨by rfl, rfl⟩) hS ?_
        simp only [Act.put, List.setIfInBounds_toArray, List.set_cons_zero, List.set_cons_succ]
        refine wpAnyH_take (i := 6) (oi := { dst := some 29, op := _, type := _, pos := _, after := _, guard := some (4, true) }) (v := undef) rfl (by kernel_rfl) (by kernel_rfl) (by kernel_rfl) (fun _ _ _ h => h) (Or.inr ⟨by rfl, rfl⟩) hS ?_
        simp only [Act.put, List.setIfInBounds_toArray, List.set_cons_zero, List.set_cons_succ]
        refine wpAnyH_take (i := 7) (oi := { dst := some 30, op := _, type := _, pos := _, after := _, guard := some (4, true) }) (v := undef) rfl (by kernel_rfl) (by kernel_rfl) (by kernel_rfl) (fun _ _ _ h => h) (Or.inr ⟨by rfl, rfl⟩) hS ?_
        simp only [Act.put, List.setIfInBounds_toArray, List.set_cons_zero, List.set_cons_succ]
        refine wpAnyH_take (i := 8) (oi := { dst := some 31, op := _, type := _, pos := _, after := _, guard := some (4, true) }) (v := undef) rfl (by kernel_rfl) (by kernel_rfl) (by kernel_rfl) (fun _ _ _ h => h) (Or.inr ⟨by rfl, rfl⟩) hS ?_
        simp only [Act.put, List.setIfInBounds_toArray, List.set_cons_zero, List.set_cons_succ]
        refine wpAnyH_take (i := 9) (oi := { dst := some 32, op := _, type := _, pos := _, after := _, guard := some (4, true) }) (v := undef) rfl (by kernel_rfl) (by kernel_rfl) (by kernel_rfl) (fun _ _ _ h => h) (Or.inr ⟨by rfl, rfl⟩) hS ?_
        simp only [Act.put, List.setIfInBounds_toArray, List.set_cons_zero, List.set_cons_succ]
        refine wpAnyH_take (i := 10) (oi := { dst := some 33, op := _, type := _, pos := _, after := _, guard := some (4, true) }) (v := undef) rfl (by kernel_rfl) (by kernel_rfl) (by kernel_rfl) (fun _ _ _ h => h) (Or.inr ⟨by rfl, rfl⟩) hS ?_
        simp only [Act.put, List.setIfInBounds_toArray, List.set_cons_zero, List.set_cons_succ]
        refine wpAnyH_take (i := 11) (oi := { dst := some 34, op := _, type := _, pos := _, after := _, guard := some (4, true) }) (v := undef) rfl (by kernel_rfl) (by kernel_rfl) (by kernel_rfl) (fun _ _ _ h => h) (Or.inr ⟨by rfl, rfl⟩) hS ?_
        simp only [Act.put, List.setIfInBounds_toArray, List.set_cons_zero, List.set_cons_succ]
        refine wpAnyH_take (i := 12) (oi := { dst := some 35, op := _, type := _, pos := _, after := _, guard := some (4, true) }) (v := undef) rfl (by kernel_rfl) (by kernel_rfl) (by kernel_rfl) (fun _ _ _ h => h) (Or.inr ⟨by rfl, rfl⟩) hS ?_
        simp only [Act.put, List.setIfInBounds_toArray, List.set_cons_zero, List.set_cons_succ]
        refine wpAnyH_take (i := 13) (oi := { dst := some 36, op := _, type := _, pos := _, after := _, guard := some (4, true) }) (v := undef) rfl (by kernel_rfl) (by kernel_rfl) (by kernel_rfl) (fun _ _ _ h => h) (Or.inr ⟨by rfl, rfl⟩) hS ?_
        simp only [Act.put, List.setIfInBounds_toArray, List.set_cons_zero, List.set_cons_succ]
        refine wpAnyH_take (i := 14) (oi := { dst := some 37, op := _, type := _, pos := _, after := _, guard := some (4, true) }) (v := undef) rfl (by kernel_rfl) (by kernel_rfl) (by kernel_rfl) (fun _ _ _ h => h) (Or.inr ⟨by rfl, rfl⟩) hS ?_
        simp only [Act.put, List.setIfInBounds_toArray, List.set_cons_zero, List.set_cons_succ]
        refine wpAnyH_take (i := 15) (oi := { dst := some 38, op := _, type := _, pos := _, after := _, guard := none }) (v := .bool false) rfl (by kernel_rfl) (by kernel_rfl) (by kernel_rfl) (fun _ _ _ h => h) (Or.inl ⟨by rfl, ?_⟩) hS ?_
        · intro wy hy
          clear hy
          go_simp
        simp only [Act.put, List.setIfInBounds_toArray, List.set_cons_zero, List.set_cons_succ]
        refine wpAnyH_done (by kernel_rfl) ?_ _
        clear hS
        go_upto_region 9 with fail
        refine wp_region_held_drew (S := fun wy => Below H1 w1 wy) (by kernel_rfl) hB.drew (fun hS => ?_)
        have HO7 := Hid.intro (ownsRow_below HO.out (Below.refl _ wb).drew)
        have hB7 := hB.drew
        clear HO hB
        generalize wb.drew = wn at *
        obtain ⟨h0, hh0⟩ : ∃ h0, h0 = wn.heap.size := ⟨_, rfl⟩
        have hh : h0 ≤ wn.heap.size := by omega
        have hgo : g < h0 := by have h9 := (HO7.out.lt g rfl).2; omega
        have hH0 : H1 ≤ h0 := by have h9 := (HO7.out.lt g rfl).1; omega
        clear hh0
        refine wpAnyH_take (i := 1) (oi := { dst := some 42, op := _, type := _, pos := _, after := _, guard := none }) (v := .slice (some ⟨g, 0, none⟩) m q) rfl (by kernel_rfl) (by kernel_rfl) (by kernel_rfl) (fun _ _ _ h => h) (Or.inl ⟨by rfl, ?_⟩) hS ?_
        · intro wy hy
          clear hy
          go_simp
        simp only [Act.put, List.setIfInBounds_toArray, List.set_cons_zero, List.set_cons_succ]
        refine wpAnyH_take (i := 2) (oi := { dst := some 43, op := _, type := _, pos := _, after := _, guard := none }) (v := .int .i64 j) rfl (by kernel_rfl) (by kernel_rfl) (by kernel_rfl) (fun _ _ _ h => h) (Or.inl ⟨by rfl, ?_⟩) hS ?_
        · intro wy hy
          clear hy
          go_simp
        simp only [Act.put, List.setIfInBounds_toArray, List.set_cons_zero, List.set_cons_succ]
        refine wpAnyH_take (i := 3) (oi := { dst := some 44, op := _, type := _, pos := _, after := _, guard := none }) (v := .slice (some ⟨g, 0, none⟩) j q) rfl (by kernel_rfl) (by kernel_rfl) (by kernel_rfl) (fun _ _ _ h => h) (Or.inl ⟨by rfl, ?_⟩) hS ?_
        · intro wy hy
          clear hy
          (go_simp; try omega)
        simp only [Act.put, List.setIfInBounds_toArray, List.set_cons_zero, List.set_cons_succ]
        refine wpAnyH_take (i := 5) (oi := { dst := some 46, op := _, type := _, pos := _, after := _, guard := none }) (v := .pointer (some ⟨w.heap.size, 3, none⟩)) rfl (by kernel_rfl) (by kernel_rfl) (by kernel_rfl) (fun _ _ _ h => h) (Or.inl ⟨by rfl, ?_⟩) hS ?_
        · intro wy hy
          clear hy
          go_simp
        simp only [Act.put, List.setIfInBounds_toArray, List.set_cons_zero, List.set_cons_succ]
        refine wpAnyH_take (i := 6) (oi := { dst := some 47, op := _, type := _, pos := _, after := _, guard := none }) (v := .slice (some ⟨b3, o3, none⟩) x.copies.length c3) rfl (by kernel_rfl) (by kernel_rfl) (by kernel_rfl) (fun _ _ _ h => h) (Or.inl ⟨by rfl, ?_⟩) hS ?_
        · intro wy hy
          have h0 := (HF1.out.below hy (by have h9 := HH1.out; have h8 := HS1.out; omega)).2.2.2
          clear hy
          go_simp
        simp only [Act.put, List.setIfInBounds_toArray, List.set_cons_zero, List.set_cons_succ]
        refine wpAnyH_take (i := 7) (oi := { dst := some 48, op := _, type := _, pos := _, after := _, guard := none }) (v := .int .i64 k) rfl (by kernel_rfl) (by kernel_rfl) (by kernel_rfl) (fun _ _ _ h => h) (Or.inl ⟨by rfl, ?_⟩) hS ?_
        · intro wy hy
          clear hy
          go_simp
        simp only [Act.put, List.setIfInBounds_toArray, List.set_cons_zero, List.set_cons_succ]
        refine wpAnyH_take (i := 8) (oi := { dst := some 49, op := _, type := _, pos := _, after := _, guard := none }) (v := .pointer (some ⟨b3, o3 + k * 12, none⟩)) rfl (by kernel_rfl) (by kernel_rfl) (by kernel_rfl) (fun _ _ _ h => h) (Or.inl ⟨by rfl, ?_⟩) hS ?_
        · intro wy hy
          clear hy
          (go_simp; try omega)
        simp only [Act.put, List.setIfInBounds_toArray, List.set_cons_zero, List.set_cons_succ]
        refine wpAnyH_take (i := 9) (oi := { dst := some 50, op := _, type := _, pos := _, after := _, guard := none }) (v := .agg #[.string c.name, .string c.service, .int .i64 c.rank, .int .i64 c.born, .int .i64 c.room, .int .i64 c.hold, .string c.select, .slice la c.likes.length lc, .int .i64 c.apart, .string c.near, .string c.fixed, .string c.at_]) rfl (by kernel_rfl) (by kernel_rfl) (by kernel_rfl) (fun _ _ _ h => h) (yieldsIf_load_mid (by rfl) _ _ rfl b3 (o3 + k * 12) rfl [.string c.name, .string c.service, .int .i64 c.rank, .int .i64 c.born, .int .i64 c.room, .int .i64 c.hold, .string c.select, .slice la c.likes.length lc, .int .i64 c.apart, .string c.near, .string c.fixed, .string c.at_] _ (fun _ h => HRC.out _ h) Tryz.underlying65 rfl isz_Cpy) hS ?_
        simp only [Act.put, List.setIfInBounds_toArray, List.set_cons_zero, List.set_cons_succ]
        refine wpAnyH_take (i := 12) (oi := { dst := some 53, op := _, type := _, pos := _, after := _, guard := none }) (v := .slice (some ⟨g, 0, none⟩) m q) rfl (by kernel_rfl) (by kernel_rfl) (by kernel_rfl) (fun _ _ _ h => h) (Or.inl ⟨by rfl, ?_⟩) hS ?_
        · intro wy hy
          clear hy
          go_simp
        simp only [Act.put, List.setIfInBounds_toArray, List.set_cons_zero, List.set_cons_succ]
        refine wpAnyH_take (i := 13) (oi := { dst := some 54, op := _, type := _, pos := _, after := _, guard := none }) (v := .int .i64 j) rfl (by kernel_rfl) (by kernel_rfl) (by kernel_rfl) (fun _ _ _ h => h) (Or.inl ⟨by rfl, ?_⟩) hS ?_
        · intro wy hy
          clear hy
          go_simp
        simp only [Act.put, List.setIfInBounds_toArray, List.set_cons_zero, List.set_cons_succ]
        obtain ⟨rb, hrb, HRB⟩ : ∃ rb : Addr, (if q = j then some (⟨g, 0, none⟩ : Addr) else some ⟨g, j * 12, none⟩) = some rb ∧ Hid (∀ wy : World, wy.ownsRow H1 65 12 (.slice (some ⟨g, 0, none⟩) m q) m (rvQ x w b3 o3 L) → ∀ t u, (rvQ x w b3 o3 (L.drop j))[t]? = some u → wy.cell? (rb.add t) = some u) := by
          split
          · refine ⟨_, rfl, fun _ _ t u h => ?_⟩
            have h9 : L.drop j = [] := List.drop_eq_nil_of_le (by have := HLL.out; omega)
            rw [h9] at h
            simp [rvQ] at h
          · refine ⟨_, rfl, fun wy hy t u h => ?_⟩
            rw [rvQ_drop, List.getElem?_drop] at h
            rw [Addr.add_mid]
            exact rowQ_cell hy HLL.out.symm h
        refine wpAnyH_take (i := 14) (oi := { dst := some 55, op := _, type := _, pos := _, after := _, guard := none }) (v := .slice (some rb) (m - j) (q - j)) rfl (by kernel_rfl) (by kernel_rfl) (by kernel_rfl) (fun _ _ _ h => h) (Or.inl ⟨by rfl, ?_⟩) hS ?_
        · intro wy hy
          clear hy
          (rw [← hrb]; go_simp; try omega)
        simp only [Act.put, List.setIfInBounds_toArray, List.set_cons_zero, List.set_cons_succ]
        refine wpAnyH_ready (rs := [0, 10]) (by kernel_rfl) (by simp) (AllReadyH.cons (o := { dst := some 41, op := _, type := _, pos := _, after := _, guard := none }) rfl (fun KK hKK => ?_) (AllReadyH.cons (o := { dst := some 51, op := _, type := _, pos := _, after := _, guard := none }) rfl (fun KK hKK => ?_) AllReadyH.nil))
        · skip
          clear hS
          go_simp
          have hal : Below wn.heap.size wn (wn.alloc (Obj.cells #[] 65)) := (Below.refl _ _).alloc (Nat.le_refl _) _
          have HR : Hid ((wn.alloc (Obj.cells #[] 65)).ownsRow h0 65 12 (.slice (some ⟨wn.heap.size, 0, none⟩) 0 0) 0 []) := World.ownsRow_made wn #[] 0 hh (Nat.zero_le _) rfl
          have hg1 : g ≠ wn.heap.size := by omega
          replace HO7 := Hid.intro (HO7.out.alloc (Obj.cells #[] 65))
          replace hB7 := hB7.trans (hal.mono (by have h9 := HH1.out; have h8 := hB7.size; omega))
          replace hh := Nat.le_trans hh hal.size
          refine hKK.out _ _ hB7 (fun hS => ?_)
          clear hKK KK hal
          generalize wn.heap.size = g1 at *
          generalize wn.alloc (Obj.cells #[] 65) = wn at *
          refine wpAnyH_ready (rs := [4, 10]) (by kernel_rfl) (by simp) (AllReadyH.cons (o := { dst := some 45, op := _, type := _, pos := _, after := _, guard := none }) rfl (fun KK hKK => ?_) (AllReadyH.cons (o := { dst := some 51, op := _, type := _, pos := _, after := _, guard := none }) rfl (fun KK hKK => ?_) AllReadyH.nil))
          · skip
            clear hS
            have HNN : Hid (∀ t u, (rvQ x w b3 o3 (L.take j))[t]? = some u → wn.cell? ((⟨g, 0, none⟩ : Addr).add t) = some u) := by
              intro t u hu
              rw [rvQ_take] at hu
              rw [Addr.add_mid, Nat.zero_add]
              exact rowQ_cell HO7.out HLL.out.symm (get_take hu)
            have hgj := (HR.out.lt g1 rfl).1
            rw [if_pos (by rfl)]
            refine wp_append_at (.tmp 41) (.tmp 44) 32 (by rfl) h0 65 i0 _ 12 160 Tryz.underlying32 HI0.out hz0 hz1 hz2 rfl (by decide) _ 0 _ (by rfl) HR.out ⟨g, 0, none⟩ j q (rvQ x w b3 o3 (L.take j)) (by rfl) (by have h9 := HLL.out; rw [rvQ_len, List.length_take, Nat.min_eq_left (by omega)]) HNN.out (rvQ_one _ _ _ _ _) (by unfold maxLen; omega) (by omega) hh ?_
            intro v' wq hown hgrow hnil hblk
            have hv : v' ≠ .slice none 0 0 := (fun e => by have h9 := (hnil.1 e).1; cases h9)
            rw [Nat.zero_add, List.nil_append] at hown
            obtain ⟨e1, q1, rfl⟩ := rowfH hown hv
            have hgr : wn.grownBy wq (some g1) := hgrow
            have hbe : e1 = g1 ∨ e1 = wn.heap.size := by
              rcases hblk with h9 | h9
              · exact .inl (Option.some.inj h9)
              · exact .inr (Option.some.inj h9)
            have hge : e1 ≠ g := by have h9 := (HO7.out.lt g rfl).2; omega
            replace HO7 := Hid.intro (HO7.out.kept hgr (Or.inr (fun e => by have h9 : g = g1 := Option.some.inj e; omega)))
            replace HR := Hid.intro hown
            replace hB7 := hB7.grown hgr (by have h9 := HH1.out; have h8 := hB7.size; omega) (fun t e => by cases e; omega)
            replace hh := Nat.le_trans hh hgr.size
            refine hKK.out _ _ hB7 (fun hS => ?_)
            clear hKK KK hown hgrow hnil hblk hv hgr hbe hgj HNN
            generalize wq = wn at *
            refine wpAnyH_ready (rs := [10]) (by kernel_rfl) (by simp) (AllReadyH.cons (o := { dst := some 51, op := _, type := _, pos := _, after := _, guard := none }) rfl (fun KK hKK => ?_) AllReadyH.nil)
            clear hS
            go_simp
            have hal : Below wn.heap.size wn (wn.alloc (Obj.cells #[.string c.name, .string c.service, .int .i64 c.rank, .int .i64 c.born, .int .i64 c.room, .int .i64 c.hold, .string c.select, .slice la c.likes.length lc, .int .i64 c.apart, .string c.near, .string c.fixed, .string c.at_] 65)) := (Below.refl _ _).alloc (Nat.le_refl _) _
            have HK2 : Hid (Blk wn.heap.size #[.string c.name, .string c.service, .int .i64 c.rank, .int .i64 c.born, .int .i64 c.room, .int .i64 c.hold, .string c.select, .slice la c.likes.length lc, .int .i64 c.apart, .string c.near, .string c.fixed, .string c.at_] 65 (wn.alloc (Obj.cells #[.string c.name, .string c.service, .int .i64 c.rank, .int .i64 c.born, .int .i64 c.room, .int .i64 c.hold, .string c.select, .slice la c.likes.length lc, .int .i64 c.apart, .string c.near, .string c.fixed, .string c.at_] 65))) := Blk.alloc _ _ _
            have hn3 : wn.heap.size ≠ g := by omega
            have hn2 : wn.heap.size ≠ e1 := by have h9 := (HR.out.lt e1 rfl).2; omega
            replace HR := Hid.intro (HR.out.alloc (Obj.cells #[.string c.name, .string c.service, .int .i64 c.rank, .int .i64 c.born, .int .i64 c.room, .int .i64 c.hold, .string c.select, .slice la c.likes.length lc, .int .i64 c.apart, .string c.near, .string c.fixed, .string c.at_] 65))
            replace HO7 := Hid.intro (HO7.out.alloc (Obj.cells #[.string c.name, .string c.service, .int .i64 c.rank, .int .i64 c.born, .int .i64 c.room, .int .i64 c.hold, .string c.select, .slice la c.likes.length lc, .int .i64 c.apart, .string c.near, .string c.fixed, .string c.at_] 65))
            replace hB7 := hB7.trans (hal.mono (by have h9 := HH1.out; have h8 := hB7.size; omega))
            replace hh := Nat.le_trans hh hal.size
            refine hKK.out _ _ hB7 (fun hS => ?_)
            clear hKK KK hal
            generalize wn.heap.size = g2 at *
            generalize wn.alloc (Obj.cells #[.string c.name, .string c.service, .int .i64 c.rank, .int .i64 c.born, .int .i64 c.room, .int .i64 c.hold, .string c.select, .slice la c.likes.length lc, .int .i64 c.apart, .string c.near, .string c.fixed, .string c.at_] 65) = wn at *
            refine wpAnyH_ready (rs := [11]) (by kernel_rfl) (by simp) (AllReadyH.cons (o := { dst := some 52, op := _, type := _, pos := _, after := _, guard := none }) rfl (fun KK hKK => ?_) AllReadyH.nil)
            clear hS
            have HNN : Hid (∀ t u, ([.string c.name, .string c.service, .int .i64 c.rank, .int .i64 c.born, .int .i64 c.room, .int .i64 c.hold, .string c.select, .slice la c.likes.length lc, .int .i64 c.apart, .string c.near, .string c.fixed, .string c.at_] : List Value)[t]? = some u → wn.cell? ((⟨g2, 0, none⟩ : Addr).add t) = some u) := fun t u hu => by
              rw [Addr.add_mid, Nat.zero_add]
              exact HK2.out.cell ((List.getElem?_toArray ..).trans hu)
            have hgj := (HR.out.lt e1 rfl).1
            rw [if_pos (by rfl)]
            refine wp_append_at (.tmp 45) (.tmp 51) 32 (by rfl) h0 65 i0 _ 12 160 Tryz.underlying32 HI0.out hz0 hz1 hz2 rfl (by decide) _ j _ (by rfl) HR.out ⟨g2, 0, none⟩ 1 1 [.string c.name, .string c.service, .int .i64 c.rank, .int .i64 c.born, .int .i64 c.room, .int .i64 c.hold, .string c.select, .slice la c.likes.length lc, .int .i64 c.apart, .string c.near, .string c.fixed, .string c.at_] (by rfl) rfl HNN.out (by have h9 := vcQ_one x w b3 o3 k; rw [HVC.out] at h9; exact h9) (by unfold maxLen; omega) (by omega) hh ?_
            intro v' wq hown hgrow hnil hblk
            have hv : v' ≠ .slice none 0 0 := (fun e => by have h9 := (hnil.1 e).1; cases h9)
            skip
            obtain ⟨e2, q2, rfl⟩ := rowfH hown hv
            have hgr : wn.grownBy wq (some e1) := hgrow
            have hbe : e2 = e1 ∨ e2 = wn.heap.size := by
              rcases hblk with h9 | h9
              · exact .inl (Option.some.inj h9)
              · exact .inr (Option.some.inj h9)
            have hge : e2 ≠ g := by have h9 := (HO7.out.lt g rfl).2; omega
            replace HO7 := Hid.intro (HO7.out.kept hgr (Or.inr (fun e => by have h9 : g = e1 := Option.some.inj e; omega)))
            replace HR := Hid.intro hown
            replace hB7 := hB7.grown hgr (by have h9 := HH1.out; have h8 := hB7.size; omega) (fun t e => by cases e; omega)
            replace hh := Nat.le_trans hh hgr.size
            refine hKK.out _ _ hB7 (fun hS => ?_)
            clear hKK KK hown hgrow hnil hblk hv hgr hbe hgj HNN
            generalize wq = wn at *
            refine wpAnyH_ready (rs := [15]) (by kernel_rfl) (by simp) (AllReadyH.cons (o := { dst := some 56, op := _, type := _, pos := _, after := _, guard := none }) rfl (fun KK hKK => ?_) AllReadyH.nil)
            clear hS
            have HNN : Hid (∀ t u, (rvQ x w b3 o3 (L.drop j))[t]? = some u → wn.cell? (rb.add t) = some u) := HRB.out _ HO7.out
            have hgj := (HR.out.lt e2 rfl).1
            rw [if_pos (by rfl)]
            refine wp_append_at (.tmp 52) (.tmp 55) 32 (by rfl) h0 65 i0 _ 12 160 Tryz.underlying32 HI0.out hz0 hz1 hz2 rfl (by decide) _ (j + 1) _ (by rfl) HR.out rb (m - j) (q - j) (rvQ x w b3 o3 (L.drop j)) (by rfl) (by have h9 := HLL.out; rw [rvQ_len, List.length_drop, h9]) HNN.out (rvQ_one _ _ _ _ _) (by unfold maxLen; omega) (by omega) hh ?_
            intro v' wq hown hgrow hnil hblk
            have hv : v' ≠ .slice none 0 0 := (fun e => by have h9 := (hnil.1 e).1; cases h9)
            skip
            obtain ⟨e3, q3, rfl⟩ := rowfH hown hv
            have hgr : wn.grownBy wq (some e2) := hgrow
            have hbe : e3 = e2 ∨ e3 = wn.heap.size := by
              rcases hblk with h9 | h9
              · exact .inl (Option.some.inj h9)
              · exact .inr (Option.some.inj h9)
            have hge : e3 ≠ g := by have h9 := (HO7.out.lt g rfl).2; omega
            replace HO7 := Hid.intro (HO7.out.kept hgr (Or.inr (fun e => by have h9 : g = e2 := Option.some.inj e; omega)))
            replace HR := Hid.intro hown
            replace hB7 := hB7.grown hgr (by have h9 := HH1.out; have h8 := hB7.size; omega) (fun t e => by cases e; omega)
            replace hh := Nat.le_trans hh hgr.size
            refine hKK.out _ _ hB7 (fun hS => ?_)
            clear hKK KK hown hgrow hnil hblk hv hgr hbe hgj HNN
            generalize wq = wn at *
            have hke : j + 1 + (m - j) = m + 1 := by omega
            have HR9 : Hid (wn.ownsRow H1 65 12 (.slice (some ⟨e3, 0, none⟩) (m + 1) q3) (m + 1) (rvQ x w b3 o3 (insQ (ltF (cfQ x)) L k))) := by
              have h9 := own_mono HR.out hH0
              rw [hke] at h9
              rw [HID.out, rvQ_app]
              show World.ownsRow _ _ _ _ _ _ (rvQ x w b3 o3 (L.take j) ++ (vcQ x w b3 o3 k ++ rvQ x w b3 o3 (L.drop j)))
              rw [HVC.out, ← List.append_assoc]
              exact h9
            rw [hke]
            refine wpAnyH_take (i := 16) (oi := { dst := some 3, op := _, type := _, pos := _, after := _, guard := none }) (v := .slice (some ⟨e3, 0, none⟩) (m + 1) q3) rfl (by kernel_rfl) (by kernel_rfl) (by kernel_rfl) (fun _ _ _ h => h) (Or.inl ⟨by rfl, ?_⟩) hS ?_
            · intro wy hy
              clear hy
              go_simp
            simp only [Act.put, List.setIfInBounds_toArray, List.set_cons_zero, List.set_cons_succ]
            refine wpAnyH_done (by kernel_rfl) ?_ _
            clear hS
            have HLN : Hid ((insQ (ltF (cfQ x)) L k).length = m + 1) := by show _ = _; rw [(insQ_perm _ _ _).length_eq, List.length_append, HLL.out]; rfl
            clear HR HO7 HLL HRB HID HA
            go_wp2_with fail
            go_roundw
            case rel => exact ⟨k + 1, e3, q3, m + 1, insQ (ltF (cfQ x)) L k, by omega, by omega, by go_num, rfl, HSN.out.symm, HLN, HR9, hB7⟩
            case measure => simp [intOf]; omega
          · skip
            clear hS
            go_simp
            have hal : Below wn.heap.size wn (wn.alloc (Obj.cells #[.string c.name, .string c.service, .int .i64 c.rank, .int .i64 c.born, .int .i64 c.room, .int .i64 c.hold, .string c.select, .slice la c.likes.length lc, .int .i64 c.apart, .string c.near, .string c.fixed, .string c.at_] 65)) := (Below.refl _ _).alloc (Nat.le_refl _) _
            have HK2 : Hid (Blk wn.heap.size #[.string c.name, .string c.service, .int .i64 c.rank, .int .i64 c.born, .int .i64 c.room, .int .i64 c.hold, .string c.select, .slice la c.likes.length lc, .int .i64 c.apart, .string c.near, .string c.fixed, .string c.at_] 65 (wn.alloc (Obj.cells #[.string c.name, .string c.service, .int .i64 c.rank, .int .i64 c.born, .int .i64 c.room, .int .i64 c.hold, .string c.select, .slice la c.likes.length lc, .int .i64 c.apart, .string c.near, .string c.fixed, .string c.at_] 65))) := Blk.alloc _ _ _
            have hn3 : wn.heap.size ≠ g := by omega
            have hn2 : wn.heap.size ≠ g1 := by have h9 := (HR.out.lt g1 rfl).2; omega
            replace HR := Hid.intro (HR.out.alloc (Obj.cells #[.string c.name, .string c.service, .int .i64 c.rank, .int .i64 c.born, .int .i64 c.room, .int .i64 c.hold, .string c.select, .slice la c.likes.length lc, .int .i64 c.apart, .string c.near, .string c.fixed, .string c.at_] 65))
            replace HO7 := Hid.intro (HO7.out.alloc (Obj.cells #[.string c.name, .string c.service, .int .i64 c.rank, .int .i64 c.born, .int .i64 c.room, .int .i64 c.hold, .string c.select, .slice la c.likes.length lc, .int .i64 c.apart, .string c.near, .string c.fixed, .string c.at_] 65))
            replace hB7 := hB7.trans (hal.mono (by have h9 := HH1.out; have h8 := hB7.size; omega))
            replace hh := Nat.le_trans hh hal.size
            refine hKK.out _ _ hB7 (fun hS => ?_)
            clear hKK KK hal
            generalize wn.heap.size = g2 at *
            generalize wn.alloc (Obj.cells #[.string c.name, .string c.service, .int .i64 c.rank, .int .i64 c.born, .int .i64 c.room, .int .i64 c.hold, .string c.select, .slice la c.likes.length lc, .int .i64 c.apart, .string c.near, .string c.fixed, .string c.at_] 65) = wn at *
            refine wpAnyH_ready (rs := [4]) (by kernel_rfl) (by simp) (AllReadyH.cons (o := { dst := some 45, op := _, type := _, pos := _, after := _, guard := none }) rfl (fun KK hKK => ?_) AllReadyH.nil)
            clear hS
            have HNN : Hid (∀ t u, (rvQ x w b3 o3 (L.take j))[t]? = some u → wn.cell? ((⟨g, 0, none⟩ : Addr).add t) = some u) := by
              intro t u hu
              rw [rvQ_take] at hu
              rw [Addr.add_mid, Nat.zero_add]
              exact rowQ_cell HO7.out HLL.out.symm (get_take hu)
            have hgj := (HR.out.lt g1 rfl).1
            rw [if_pos (by rfl)]
            refine wp_append_at (.tmp 41) (.tmp 44) 32 (by rfl) h0 65 i0 _ 12 160 Tryz.underlying32 HI0.out hz0 hz1 hz2 rfl (by decide) _ 0 _ (by rfl) HR.out ⟨g, 0, none⟩ j q (rvQ x w b3 o3 (L.take j)) (by rfl) (by have h9 := HLL.out; rw [rvQ_len, List.length_take, Nat.min_eq_left (by omega)]) HNN.out (rvQ_one _ _ _ _ _) (by unfold maxLen; omega) (by omega) hh ?_
            intro v' wq hown hgrow hnil hblk
            have hv : v' ≠ .slice none 0 0 := (fun e => by have h9 := (hnil.1 e).1; cases h9)
            rw [Nat.zero_add, List.nil_append] at hown
            obtain ⟨e1, q1, rfl⟩ := rowfH hown hv
            have hgr : wn.grownBy wq (some g1) := hgrow
            have hbe : e1 = g1 ∨ e1 = wn.heap.size := by
              rcases hblk with h9 | h9
              · exact .inl (Option.some.inj h9)
              · exact .inr (Option.some.inj h9)
            have hn4 : e1 ≠ g2 := by have h9 := HK2.out.lt; omega
            replace HK2 := Hid.intro (blk_grownR HK2.out hgr (by omega))
            have hge : e1 ≠ g := by have h9 := (HO7.out.lt g rfl).2; omega
            replace HO7 := Hid.intro (HO7.out.kept hgr (Or.inr (fun e => by have h9 : g = g1 := Option.some.inj e; omega)))
            replace HR := Hid.intro hown
            replace hB7 := hB7.grown hgr (by have h9 := HH1.out; have h8 := hB7.size; omega) (fun t e => by cases e; omega)
            replace hh := Nat.le_trans hh hgr.size
            refine hKK.out _ _ hB7 (fun hS => ?_)
            clear hKK KK hown hgrow hnil hblk hv hgr hbe hgj HNN
            generalize wq = wn at *
            refine wpAnyH_ready (rs := [11]) (by kernel_rfl) (by simp) (AllReadyH.cons (o := { dst := some 52, op := _, type := _, pos := _, after := _, guard := none }) rfl (fun KK hKK => ?_) AllReadyH.nil)
            clear hS
            have HNN : Hid (∀ t u, ([.string c.name, .string c.service, .int .i64 c.rank, .int .i64 c.born, .int .i64 c.room, .int .i64 c.hold, .string c.select, .slice la c.likes.length lc, .int .i64 c.apart, .string c.near, .string c.fixed, .string c.at_] : List Value)[t]? = some u → wn.cell? ((⟨g2, 0, none⟩ : Addr).add t) = some u) := fun t u hu => by
              rw [Addr.add_mid, Nat.zero_add]
              exact HK2.out.cell ((List.getElem?_toArray ..).trans hu)
            have hgj := (HR.out.lt e1 rfl).1
            rw [if_pos (by rfl)]
            refine wp_append_at (.tmp 45) (.tmp 51) 32 (by rfl) h0 65 i0 _ 12 160 Tryz.underlying32 HI0.out hz0 hz1 hz2 rfl (by decide) _ j _ (by rfl) HR.out ⟨g2, 0, none⟩ 1 1 [.string c.name, .string c.service, .int .i64 c.rank, .int .i64 c.born, .int .i64 c.room, .int .i64 c.hold, .string c.select, .slice la c.likes.length lc, .int .i64 c.apart, .string c.near, .string c.fixed, .string c.at_] (by rfl) rfl HNN.out (by have h9 := vcQ_one x w b3 o3 k; rw [HVC.out] at h9; exact h9) (by unfold maxLen; omega) (by omega) hh ?_
            intro v' wq hown hgrow hnil hblk
            have hv : v' ≠ .slice none 0 0 := (fun e => by have h9 := (hnil.1 e).1; cases h9)
            skip
            obtain ⟨e2, q2, rfl⟩ := rowfH hown hv
            have hgr : wn.grownBy wq (some e1) := hgrow
            have hbe : e2 = e1 ∨ e2 = wn.heap.size := by
              rcases hblk with h9 | h9
              · exact .inl (Option.some.inj h9)
              · exact .inr (Option.some.inj h9)
            have hge : e2 ≠ g := by have h9 := (HO7.out.lt g rfl).2; omega
            replace HO7 := Hid.intro (HO7.out.kept hgr (Or.inr (fun e => by have h9 : g = e1 := Option.some.inj e; omega)))
            replace HR := Hid.intro hown
            replace hB7 := hB7.grown hgr (by have h9 := HH1.out; have h8 := hB7.size; omega) (fun t e => by cases e; omega)
            replace hh := Nat.le_trans hh hgr.size
            refine hKK.out _ _ hB7 (fun hS => ?_)
            clear hKK KK hown hgrow hnil hblk hv hgr hbe hgj HNN
            generalize wq = wn at *
            refine wpAnyH_ready (rs := [15]) (by kernel_rfl) (by simp) (AllReadyH.cons (o := { dst := some 56, op := _, type := _, pos := _, after := _, guard := none }) rfl (fun KK hKK => ?_) AllReadyH.nil)
            clear hS
            have HNN : Hid (∀ t u, (rvQ x w b3 o3 (L.drop j))[t]? = some u → wn.cell? (rb.add t) = some u) := HRB.out _ HO7.out
            have hgj := (HR.out.lt e2 rfl).1
            rw [if_pos (by rfl)]
            refine wp_append_at (.tmp 52) (.tmp 55) 32 (by rfl) h0 65 i0 _ 12 160 Tryz.underlying32 HI0.out hz0 hz1 hz2 rfl (by decide) _ (j + 1) _ (by rfl) HR.out rb (m - j) (q - j) (rvQ x w b3 o3 (L.drop j)) (by rfl) (by have h9 := HLL.out; rw [rvQ_len, List.length_drop, h9]) HNN.out (rvQ_one _ _ _ _ _) (by unfold maxLen; omega) (by omega) hh ?_
            intro v' wq hown hgrow hnil hblk
            have hv : v' ≠ .slice none 0 0 := (fun e => by have h9 := (hnil.1 e).1; cases h9)
            skip
            obtain ⟨e3, q3, rfl⟩ := rowfH hown hv
            have hgr : wn.grownBy wq (some e2) := hgrow
            have hbe : e3 = e2 ∨ e3 = wn.heap.size := by
              rcases hblk with h9 | h9
              · exact .inl (Option.some.inj h9)
              · exact .inr (Option.some.inj h9)
            have hge : e3 ≠ g := by have h9 := (HO7.out.lt g rfl).2; omega
            replace HO7 := Hid.intro (HO7.out.kept hgr (Or.inr (fun e => by have h9 : g = e2 := Option.some.inj e; omega)))
            replace HR := Hid.intro hown
            replace hB7 := hB7.grown hgr (by have h9 := HH1.out; have h8 := hB7.size; omega) (fun t e => by cases e; omega)
            replace hh := Nat.le_trans hh hgr.size
            refine hKK.out _ _ hB7 (fun hS => ?_)
            clear hKK KK hown hgrow hnil hblk hv hgr hbe hgj HNN
            generalize wq = wn at *
            have hke : j + 1 + (m - j) = m + 1 := by omega
            have HR9 : Hid (wn.ownsRow H1 65 12 (.slice (some ⟨e3, 0, none⟩) (m + 1) q3) (m + 1) (rvQ x w b3 o3 (insQ (ltF (cfQ x)) L k))) := by
              have h9 := own_mono HR.out hH0
              rw [hke] at h9
              rw [HID.out, rvQ_app]
              show World.ownsRow _ _ _ _ _ _ (rvQ x w b3 o3 (L.take j) ++ (vcQ x w b3 o3 k ++ rvQ x w b3 o3 (L.drop j)))
              rw [HVC.out, ← List.append_assoc]
              exact h9
            rw [hke]
            refine wpAnyH_take (i := 16) (oi := { dst := some 3, op := _, type := _, pos := _, after := _, guard := none }) (v := .slice (some ⟨e3, 0, none⟩) (m + 1) q3) rfl (by kernel_rfl) (by kernel_rfl) (by kernel_rfl) (fun _ _ _ h => h) (Or.inl ⟨by rfl, ?_⟩) hS ?_
            · intro wy hy
              clear hy
              go_simp
            simp only [Act.put, List.setIfInBounds_toArray, List.set_cons_zero, List.set_cons_succ]
            refine wpAnyH_done (by kernel_rfl) ?_ _
            clear hS
            have HLN : Hid ((insQ (ltF (cfQ x)) L k).length = m + 1) := by show _ = _; rw [(insQ_perm _ _ _).length_eq, List.length_append, HLL.out]; rfl
            clear HR HO7 HLL HRB HID HA
            go_wp2_with fail
            go_roundw
            case rel => exact ⟨k + 1, e3, q3, m + 1, insQ (ltF (cfQ x)) L k, by omega, by omega, by go_num, rfl, HSN.out.symm, HLN, HR9, hB7⟩
            case measure => simp [intOf]; omega
        · skip
          clear hS
          go_simp
          have hal : Below wn.heap.size wn (wn.alloc (Obj.cells #[.string c.name, .string c.service, .int .i64 c.rank, .int .i64 c.born, .int .i64 c.room, .int .i64 c.hold, .string c.select, .slice la c.likes.length lc, .int .i64 c.apart, .string c.near, .string c.fixed, .string c.at_] 65)) := (Below.refl _ _).alloc (Nat.le_refl _) _
          have HK2 : Hid (Blk wn.heap.size #[.string c.name, .string c.service, .int .i64 c.rank, .int .i64 c.born, .int .i64 c.room, .int .i64 c.hold, .string c.select, .slice la c.likes.length lc, .int .i64 c.apart, .string c.near, .string c.fixed, .string c.at_] 65 (wn.alloc (Obj.cells #[.string c.name, .string c.service, .int .i64 c.rank, .int .i64 c.born, .int .i64 c.room, .int .i64 c.hold, .string c.select, .slice la c.likes.length lc, .int .i64 c.apart, .string c.near, .string c.fixed, .string c.at_] 65))) := Blk.alloc _ _ _
          have hn3 : wn.heap.size ≠ g := by omega
          replace HO7 := Hid.intro (HO7.out.alloc (Obj.cells #[.string c.name, .string c.service, .int .i64 c.rank, .int .i64 c.born, .int .i64 c.room, .int .i64 c.hold, .string c.select, .slice la c.likes.length lc, .int .i64 c.apart, .string c.near, .string c.fixed, .string c.at_] 65))
          replace hB7 := hB7.trans (hal.mono (by have h9 := HH1.out; have h8 := hB7.size; omega))
          replace hh := Nat.le_trans hh hal.size
          refine hKK.out _ _ hB7 (fun hS => ?_)
          clear hKK KK hal
          generalize wn.heap.size = g2 at *
          generalize wn.alloc (Obj.cells #[.string c.name, .string c.service, .int .i64 c.rank, .int .i64 c.born, .int .i64 c.room, .int .i64 c.hold, .string c.select, .slice la c.likes.length lc, .int .i64 c.apart, .string c.near, .string c.fixed, .string c.at_] 65) = wn at *
          refine wpAnyH_ready (rs := [0]) (by kernel_rfl) (by simp) (AllReadyH.cons (o := { dst := some 41, op := _, type := _, pos := _, after := _, guard := none }) rfl (fun KK hKK => ?_) AllReadyH.nil)
          clear hS
          go_simp
          have hal : Below wn.heap.size wn (wn.alloc (Obj.cells #[] 65)) := (Below.refl _ _).alloc (Nat.le_refl _) _
          have HR : Hid ((wn.alloc (Obj.cells #[] 65)).ownsRow h0 65 12 (.slice (some ⟨wn.heap.size, 0, none⟩) 0 0) 0 []) := World.ownsRow_made wn #[] 0 hh (Nat.zero_le _) rfl
          have hg1 : g ≠ wn.heap.size := by omega
          have hn2 : g2 ≠ wn.heap.size := by have h9 := HK2.out.lt; omega
          replace HK2 := Hid.intro (HK2.out.below hal HK2.out.lt)
          replace HO7 := Hid.intro (HO7.out.alloc (Obj.cells #[] 65))
          replace hB7 := hB7.trans (hal.mono (by have h9 := HH1.out; have h8 := hB7.size; omega))
          replace hh := Nat.le_trans hh hal.size
          refine hKK.out _ _ hB7 (fun hS => ?_)
          clear hKK KK hal
          generalize wn.heap.size = g1 at *
          generalize wn.alloc (Obj.cells #[] 65) = wn at *
          refine wpAnyH_ready (rs := [4]) (by kernel_rfl) (by simp) (AllReadyH.cons (o := { dst := some 45, op := _, type := _, pos := _, after := _, guard := none }) rfl (fun KK hKK => ?_) AllReadyH.nil)
          clear hS
          have HNN : Hid (∀ t u, (rvQ x w b3 o3 (L.take j))[t]? = some u → wn.cell? ((⟨g, 0, none⟩ : Addr).add t) = some u) := by
            intro t u hu
            rw [rvQ_take] at hu
            rw [Addr.add_mid, Nat.zero_add]
            exact rowQ_cell HO7.out HLL.out.symm (get_take hu)
          have hgj := (HR.out.lt g1 rfl).1
          rw [if_pos (by rfl)]
          refine wp_append_at (.tmp 41) (.tmp 44) 32 (by rfl) h0 65 i0 _ 12 160 Tryz.underlying32 HI0.out hz0 hz1 hz2 rfl (by decide) _ 0 _ (by rfl) HR.out ⟨g, 0, none⟩ j q (rvQ x w b3 o3 (L.take j)) (by rfl) (by have h9 := HLL.out; rw [rvQ_len, List.length_take, Nat.min_eq_left (by omega)]) HNN.out (rvQ_one _ _ _ _ _) (by unfold maxLen; omega) (by omega) hh ?_
          intro v' wq hown hgrow hnil hblk
          have hv : v' ≠ .slice none 0 0 := (fun e => by have h9 := (hnil.1 e).1; cases h9)
          rw [Nat.zero_add, List.nil_append] at hown
          obtain ⟨e1, q1, rfl⟩ := rowfH hown hv
          have hgr : wn.grownBy wq (some g1) := hgrow
          have hbe : e1 = g1 ∨ e1 = wn.heap.size := by
            rcases hblk with h9 | h9
            · exact .inl (Option.some.inj h9)
            · exact .inr (Option.some.inj h9)
          have hn4 : e1 ≠ g2 := by have h9 := HK2.out.lt; omega
          replace HK2 := Hid.intro (blk_grownR HK2.out hgr (by omega))
          have hge : e1 ≠ g := by have h9 := (HO7.out.lt g rfl).2; omega
          replace HO7 := Hid.intro (HO7.out.kept hgr (Or.inr (fun e => by have h9 : g = g1 := Option.some.inj e; omega)))
          replace HR := Hid.intro hown
          replace hB7 := hB7.grown hgr (by have h9 := HH1.out; have h8 := hB7.size; omega) (fun t e => by cases e; omega)
          replace hh := Nat.le_trans hh hgr.size
          refine hKK.out _ _ hB7 (fun hS => ?_)
          clear hKK KK hown hgrow hnil hblk hv hgr hbe hgj HNN
          generalize wq = wn at *
          refine wpAnyH_ready (rs := [11]) (by kernel_rfl) (by simp) (AllReadyH.cons (o := { dst := some 52, op := _, type := _, pos := _, after := _, guard := none }) rfl (fun KK hKK => ?_) AllReadyH.nil)
          clear hS
          have HNN : Hid (∀ t u, ([.string c.name, .string c.service, .int .i64 c.rank, .int .i64 c.born, .int .i64 c.room, .int .i64 c.hold, .string c.select, .slice la c.likes.length lc, .int .i64 c.apart, .string c.near, .string c.fixed, .string c.at_] : List Value)[t]? = some u → wn.cell? ((⟨g2, 0, none⟩ : Addr).add t) = some u) := fun t u hu => by
            rw [Addr.add_mid, Nat.zero_add]
            exact HK2.out.cell ((List.getElem?_toArray ..).trans hu)
          have hgj := (HR.out.lt e1 rfl).1
          rw [if_pos (by rfl)]
          refine wp_append_at (.tmp 45) (.tmp 51) 32 (by rfl) h0 65 i0 _ 12 160 Tryz.underlying32 HI0.out hz0 hz1 hz2 rfl (by decide) _ j _ (by rfl) HR.out ⟨g2, 0, none⟩ 1 1 [.string c.name, .string c.service, .int .i64 c.rank, .int .i64 c.born, .int .i64 c.room, .int .i64 c.hold, .string c.select, .slice la c.likes.length lc, .int .i64 c.apart, .string c.near, .string c.fixed, .string c.at_] (by rfl) rfl HNN.out (by have h9 := vcQ_one x w b3 o3 k; rw [HVC.out] at h9; exact h9) (by unfold maxLen; omega) (by omega) hh ?_
          intro v' wq hown hgrow hnil hblk
          have hv : v' ≠ .slice none 0 0 := (fun e => by have h9 := (hnil.1 e).1; cases h9)
          skip
          obtain ⟨e2, q2, rfl⟩ := rowfH hown hv
          have hgr : wn.grownBy wq (some e1) := hgrow
          have hbe : e2 = e1 ∨ e2 = wn.heap.size := by
            rcases hblk with h9 | h9
            · exact .inl (Option.some.inj h9)
            · exact .inr (Option.some.inj h9)
          have hge : e2 ≠ g := by have h9 := (HO7.out.lt g rfl).2; omega
          replace HO7 := Hid.intro (HO7.out.kept hgr (Or.inr (fun e => by have h9 : g = e1 := Option.some.inj e; omega)))
          replace HR := Hid.intro hown
          replace hB7 := hB7.grown hgr (by have h9 := HH1.out; have h8 := hB7.size; omega) (fun t e => by cases e; omega)
          replace hh := Nat.le_trans hh hgr.size
          refine hKK.out _ _ hB7 (fun hS => ?_)
          clear hKK KK hown hgrow hnil hblk hv hgr hbe hgj HNN
          generalize wq = wn at *
          refine wpAnyH_ready (rs := [15]) (by kernel_rfl) (by simp) (AllReadyH.cons (o := { dst := some 56, op := _, type := _, pos := _, after := _, guard := none }) rfl (fun KK hKK => ?_) AllReadyH.nil)
          clear hS
          have HNN : Hid (∀ t u, (rvQ x w b3 o3 (L.drop j))[t]? = some u → wn.cell? (rb.add t) = some u) := HRB.out _ HO7.out
          have hgj := (HR.out.lt e2 rfl).1
          rw [if_pos (by rfl)]
          refine wp_append_at (.tmp 52) (.tmp 55) 32 (by rfl) h0 65 i0 _ 12 160 Tryz.underlying32 HI0.out hz0 hz1 hz2 rfl (by decide) _ (j + 1) _ (by rfl) HR.out rb (m - j) (q - j) (rvQ x w b3 o3 (L.drop j)) (by rfl) (by have h9 := HLL.out; rw [rvQ_len, List.length_drop, h9]) HNN.out (rvQ_one _ _ _ _ _) (by unfold maxLen; omega) (by omega) hh ?_
          intro v' wq hown hgrow hnil hblk
          have hv : v' ≠ .slice none 0 0 := (fun e => by have h9 := (hnil.1 e).1; cases h9)
          skip
          obtain ⟨e3, q3, rfl⟩ := rowfH hown hv
          have hgr : wn.grownBy wq (some e2) := hgrow
          have hbe : e3 = e2 ∨ e3 = wn.heap.size := by
            rcases hblk with h9 | h9
            · exact .inl (Option.some.inj h9)
            · exact .inr (Option.some.inj h9)
          have hge : e3 ≠ g := by have h9 := (HO7.out.lt g rfl).2; omega
          replace HO7 := Hid.intro (HO7.out.kept hgr (Or.inr (fun e => by have h9 : g = e2 := Option.some.inj e; omega)))
          replace HR := Hid.intro hown
          replace hB7 := hB7.grown hgr (by have h9 := HH1.out; have h8 := hB7.size; omega) (fun t e => by cases e; omega)
          replace hh := Nat.le_trans hh hgr.size
          refine hKK.out _ _ hB7 (fun hS => ?_)
          clear hKK KK hown hgrow hnil hblk hv hgr hbe hgj HNN
          generalize wq = wn at *
          have hke : j + 1 + (m - j) = m + 1 := by omega
          have HR9 : Hid (wn.ownsRow H1 65 12 (.slice (some ⟨e3, 0, none⟩) (m + 1) q3) (m + 1) (rvQ x w b3 o3 (insQ (ltF (cfQ x)) L k))) := by
            have h9 := own_mono HR.out hH0
            rw [hke] at h9
            rw [HID.out, rvQ_app]
            show World.ownsRow _ _ _ _ _ _ (rvQ x w b3 o3 (L.take j) ++ (vcQ x w b3 o3 k ++ rvQ x w b3 o3 (L.drop j)))
            rw [HVC.out, ← List.append_assoc]
            exact h9
          rw [hke]
          refine wpAnyH_take (i := 16) (oi := { dst := some 3, op := _, type := _, pos := _, after := _, guard := none }) (v := .slice (some ⟨e3, 0, none⟩) (m + 1) q3) rfl (by kernel_rfl) (by kernel_rfl) (by kernel_rfl) (fun _ _ _ h => h) (Or.inl ⟨by rfl, ?_⟩) hS ?_
          · intro wy hy
            clear hy
            go_simp
          simp only [Act.put, List.setIfInBounds_toArray, List.set_cons_zero, List.set_cons_succ]
          refine wpAnyH_done (by kernel_rfl) ?_ _
          clear hS
          have HLN : Hid ((insQ (ltF (cfQ x)) L k).length = m + 1) := by show _ = _; rw [(insQ_perm _ _ _).length_eq, List.length_append, HLL.out]; rfl
          clear HR HO7 HLL HRB HID HA
          go_wp2_with fail
          go_roundw
          case rel => exact ⟨k + 1, e3, q3, m + 1, insQ (ltF (cfQ x)) L k, by omega, by omega, by go_num, rfl, HSN.out.symm, HLN, HR9, hB7⟩
          case measure => simp [intOf]; omega
      obtain ⟨i, hi⟩ : ∃ i, L[j]? = some i := ⟨L[j]'(by have := HLL.out; omega), List.getElem?_eq_getElem _⟩
      have hik : i < k := by
        have h9 := List.mem_of_getElem? hi
        rw [HL.out] at h9
        exact qTo_lt h9
      obtain ⟨d, hd⟩ : ∃ d, x.copies[i]? = some d := ⟨x.copies[i]'(by omega), List.getElem?_eq_getElem _⟩
      obtain ⟨ld, hld⟩ : ∃ ld, ld = (lkQ w b3 o3 i).1 := ⟨_, rfl⟩
      obtain ⟨ldc, hldc⟩ : ∃ ldc, ldc = (lkQ w b3 o3 i).2 := ⟨_, rfl⟩
      have hrd : wr.rangeAt g (j * 12) [.string d.name, .string d.service, .int .i64 d.rank, .int .i64 d.born, .int .i64 d.room, .int .i64 d.hold, .string d.select, .slice ld d.likes.length ldc, .int .i64 d.apart, .string d.near, .string d.fixed, .string d.at_] := by
        have h9 := rowQ_rng HO.out HLL.out.symm hi
        rw [vcQ_at hd, ← hld, ← hldc] at h9
        exact h9
      have HAH := Hid.intro (ltF_ah hd HCK.out)
      have HIJ := Hid.intro hi
      clear hd hld hldc hi hik
      have hjn : (j : Int) < (m : Int) := by omega
      refine wp_region_held_drew (S := fun wy => (wy.rangeAt g (j * 12) [.string d.name, .string d.service, .int .i64 d.rank, .int .i64 d.born, .int .i64 d.room, .int .i64 d.hold, .string d.select, .slice ld d.likes.length ldc, .int .i64 d.apart, .string d.near, .string d.fixed, .string d.at_] ∧ g < wy.heap.size) ∧ Below H1 w1 wy) (by kernel_rfl) ⟨⟨hrd, hgl.2⟩, hB.drew⟩ (fun hS => ?_)
      replace HO := Hid.intro (ownsRow_below HO.out (Below.refl _ wr).drew)
      replace hB := hB.drew
      clear hrd hgl
      generalize wr.drew = wb at *
      refine wpAnyH_take (i := 0) (oi := { dst := some 23, op := _, type := _, pos := _, after := _, guard := none }) (v := .int .i64 j) rfl (by kernel_rfl) (by kernel_rfl) (by kernel_rfl) (fun _ _ _ h => h) (Or.inl ⟨by rfl, ?_⟩) hS ?_
      · intro wy hy
        clear hy
        go_simp
      simp only [Act.put, List.setIfInBounds_toArray, List.set_cons_zero, List.set_cons_succ]
      refine wpAnyH_take (i := 1) (oi := { dst := some 24, op := _, type := _, pos := _, after := _, guard := none }) (v := .slice (some ⟨g, 0, none⟩) m q) rfl (by kernel_rfl) (by kernel_rfl) (by kernel_rfl) (fun _ _ _ h => h) (Or.inl ⟨by rfl, ?_⟩) hS ?_
      · intro wy hy
        clear hy
        go_simp
      simp only [Act.put, List.setIfInBounds_toArray, List.set_cons_zero, List.set_cons_succ]
      refine wpAnyH_take (i := 2) (oi := { dst := some 25, op := _, type := _, pos := _, after := _, guard := none }) (v := .int .i64 m) rfl (by kernel_rfl) (by kernel_rfl) (by kernel_rfl) (fun _ _ _ h => h) (Or.inl ⟨by rfl, ?_⟩) hS ?_
      · intro wy hy
        clear hy
        go_simp
      simp only [Act.put, List.setIfInBounds_toArray, List.set_cons_zero, List.set_cons_succ]
      refine wpAnyH_take (i := 3) (oi := { dst := some 26, op := _, type := _, pos := _, after := _, guard := none }) (v := .bool true) rfl (by kernel_rfl) (by kernel_rfl) (by kernel_rfl) (fun _ _ _ h => h) (Or.inl ⟨by rfl, ?_⟩) hS ?_
      · intro wy hy
        clear hy
        (go_simp; try omega)
      simp only [Act.put, List.setIfInBounds_toArray, List.set_cons_zero, List.set_cons_succ]
      refine wpAnyH_take (i := 4) (oi := { dst := some 27, op := _, type := _, pos := _, after := _, guard := none }) (v := .bool true) rfl (by kernel_rfl) (by kernel_rfl) (by kernel_rfl) (fun _ _ _ h => h) (Or.inl ⟨by rfl, ?_⟩) hS ?_
      · intro wy hy
        clear hy
        go_simp
      simp only [Act.put, List.setIfInBounds_toArray, List.set_cons_zero, List.set_cons_succ]
      refine wpAnyH_take (i := 5) (oi := { dst := some 28, op := _, type := _, pos := _, after := _, guard := some (4, true) }) (v := .slice (some ⟨g, 0, none⟩) m q) rfl (by kernel_rfl) (by kernel_rfl) (by kernel_rfl) (fun _ _ _ h => h) (Or.inl ⟨by rfl, ?_⟩) hS ?_
      · intro wy hy
        clear hy
        go_simp
      simp only [Act.put, List.setIfInBounds_toArray, List.set_cons_zero, List.set_cons_succ]
      refine wpAnyH_take (i := 6) (oi := { dst := some 29, op := _, type := _, pos := _, after := _, guard := some (4, true) }) (v := .int .i64 j) rfl (by kernel_rfl) (by kernel_rfl) (by kernel_rfl) (fun _ _ _ h => h) (Or.inl ⟨by rfl, ?_⟩) hS ?_
      · intro wy hy
        clear hy
        go_simp
      simp only [Act.put, List.setIfInBounds_toArray, List.set_cons_zero, List.set_cons_succ]
      refine wpAnyH_take (i := 7) (oi := { dst := some 30, op := _, type := _, pos := _, after := _, guard := some (4, true) }) (v := .pointer (some ⟨g, j * 12, none⟩)) rfl (by kernel_rfl) (by kernel_rfl) (by kernel_rfl) (fun _ _ _ h => h) (Or.inl ⟨by rfl, ?_⟩) hS ?_
      · intro wy hy
        clear hy
        (go_simp; try omega)
      simp only [Act.put, List.setIfInBounds_toArray, List.set_cons_zero, List.set_cons_succ]
      refine wpAnyH_take (i := 8) (oi := { dst := some 31, op := _, type := _, pos := _, after := _, guard := some (4, true) }) (v := .agg #[.string d.name, .string d.service, .int .i64 d.rank, .int .i64 d.born, .int .i64 d.room, .int .i64 d.hold, .string d.select, .slice ld d.likes.length ldc, .int .i64 d.apart, .string d.near, .string d.fixed, .string d.at_]) rfl (by kernel_rfl) (by kernel_rfl) (by kernel_rfl) (fun _ _ _ h => h) (yieldsIf_load_mid (by rfl) _ _ rfl g (j * 12) rfl [.string d.name, .string d.service, .int .i64 d.rank, .int .i64 d.born, .int .i64 d.room, .int .i64 d.hold, .string d.select, .slice ld d.likes.length ldc, .int .i64 d.apart, .string d.near, .string d.fixed, .string d.at_] _ (fun _ h => h.1.1) Tryz.underlying65 rfl isz_Cpy) hS ?_
      simp only [Act.put, List.setIfInBounds_toArray, List.set_cons_zero, List.set_cons_succ]
      refine wpAnyH_take (i := 9) (oi := { dst := some 32, op := _, type := _, pos := _, after := _, guard := some (4, true) }) (v := .pointer (some ⟨w.heap.size, 3, none⟩)) rfl (by kernel_rfl) (by kernel_rfl) (by kernel_rfl) (fun _ _ _ h => h) (Or.inl ⟨by rfl, ?_⟩) hS ?_
      · intro wy hy
        clear hy
        go_simp
      simp only [Act.put, List.setIfInBounds_toArray, List.set_cons_zero, List.set_cons_succ]
      refine wpAnyH_take (i := 10) (oi := { dst := some 33, op := _, type := _, pos := _, after := _, guard := some (4, true) }) (v := .slice (some ⟨b3, o3, none⟩) x.copies.length c3) rfl (by kernel_rfl) (by kernel_rfl) (by kernel_rfl) (fun _ _ _ h => h) (Or.inl ⟨by rfl, ?_⟩) hS ?_
      · intro wy hy
        have h0 := (HF1.out.below hy.2 (by have h9 := HH1.out; have h8 := HS1.out; omega)).2.2.2
        clear hy
        go_simp
      simp only [Act.put, List.setIfInBounds_toArray, List.set_cons_zero, List.set_cons_succ]
      refine wpAnyH_take (i := 11) (oi := { dst := some 34, op := _, type := _, pos := _, after := _, guard := some (4, true) }) (v := .int .i64 k) rfl (by kernel_rfl) (by kernel_rfl) (by kernel_rfl) (fun _ _ _ h => h) (Or.inl ⟨by rfl, ?_⟩) hS ?_
      · intro wy hy
        clear hy
        go_simp
      simp only [Act.put, List.setIfInBounds_toArray, List.set_cons_zero, List.set_cons_succ]
      refine wpAnyH_take (i := 12) (oi := { dst := some 35, op := _, type := _, pos := _, after := _, guard := some (4, true) }) (v := .pointer (some ⟨b3, o3 + k * 12, none⟩)) rfl (by kernel_rfl) (by kernel_rfl) (by kernel_rfl) (fun _ _ _ h => h) (Or.inl ⟨by rfl, ?_⟩) hS ?_
      · intro wy hy
        clear hy
        (go_simp; try omega)
      simp only [Act.put, List.setIfInBounds_toArray, List.set_cons_zero, List.set_cons_succ]
      refine wpAnyH_take (i := 13) (oi := { dst := some 36, op := _, type := _, pos := _, after := _, guard := some (4, true) }) (v := .agg #[.string c.name, .string c.service, .int .i64 c.rank, .int .i64 c.born, .int .i64 c.room, .int .i64 c.hold, .string c.select, .slice la c.likes.length lc, .int .i64 c.apart, .string c.near, .string c.fixed, .string c.at_]) rfl (by kernel_rfl) (by kernel_rfl) (by kernel_rfl) (fun _ _ _ h => h) (yieldsIf_load_mid (by rfl) _ _ rfl b3 (o3 + k * 12) rfl [.string c.name, .string c.service, .int .i64 c.rank, .int .i64 c.born, .int .i64 c.room, .int .i64 c.hold, .string c.select, .slice la c.likes.length lc, .int .i64 c.apart, .string c.near, .string c.fixed, .string c.at_] _ (fun _ h => HRC.out _ h.2) Tryz.underlying65 rfl isz_Cpy) hS ?_
      simp only [Act.put, List.setIfInBounds_toArray, List.set_cons_zero, List.set_cons_succ]
      refine wpAnyH_ready (rs := [14]) (by kernel_rfl) (by simp) (AllReadyH.cons (o := { dst := some 37, op := _, type := _, pos := _, after := _, guard := some (4, true) }) rfl (fun K hK => ?_) AllReadyH.nil)
      go_simp
      refine (ahead_any d c ld ldc la lc _).mono ?_
      rintro e we ⟨rfl, hbe⟩
      replace HO := Hid.intro (ownsRow_below HO.out hbe)
      replace hB := hB.trans (hbe.mono (by have h9 := HH1.out; have h8 := hB.size; omega))
      refine hK.out _ _ ⟨⟨fun t u ht => (hbe.cell (p := ⟨g, j * 12 + t, none⟩) hS.1.2).trans (hS.1.1 t u ht), Nat.lt_of_lt_of_le hS.1.2 hbe.size⟩, hB⟩ (fun hS => ?_)
      clear hK K
      clear hbe
      generalize we = wb at *
      cases hah : ahW d c with
      | true =>
        have HA2 : Hid (∀ a ∈ L.take (j + 1), ltF (cfQ x) a k = true) := by
          intro b hb
          rw [List.take_add_one, HIJ.out] at hb
          rcases List.mem_append.1 hb with h | h
          · exact HA.out b h
          · simp at h
            rw [h, HAH.out, hah]
        clear HA HIJ HAH hah
        refine wpAnyH_take (i := 15) (oi := { dst := some 38, op := _, type := _, pos := _, after := _, guard := none }) (v := .bool true) rfl (by kernel_rfl) (by kernel_rfl) (by kernel_rfl) (fun _ _ _ h => h) (Or.inl ⟨by rfl, ?_⟩) hS ?_
        · intro wy hy
          clear hy
          go_simp
        simp only [Act.put, List.setIfInBounds_toArray, List.set_cons_zero, List.set_cons_succ]
        refine wpAnyH_done (by kernel_rfl) ?_ _
        clear hS
        go_wp2_with fail
        go_roundw
        case rel => exact ⟨j + 1, by omega, by go_num, HA2, HO, hB⟩
        case measure => simp [intOf]; omega
      | false =>
        have HID : Hid (insQ (ltF (cfQ x)) L k = L.take j ++ k :: L.drop j) := insQ_at (by have := HLL.out; omega) HA.out (fun b hb => by rw [HIJ.out] at hb; cases hb; rw [HAH.out, hah])
        clear HIJ HAH hah
        refine wpAnyH_take (i := 15) (oi := { dst := some 38, op := _, type := _, pos := _, after := _, guard := none }) (v := .bool false) rfl (by kernel_rfl) (by kernel_rfl) (by kernel_rfl) (fun _ _ _ h => h) (Or.inl ⟨by rfl, ?_⟩) hS ?_
        · intro wy hy
          clear hy
          go_simp
        simp only [Act.put, List.setIfInBounds_toArray, List.set_cons_zero, List.set_cons_succ]
        refine wpAnyH_done (by kernel_rfl) ?_ _
        clear hS
        go_upto_region 9 with fail
        refine wp_region_held_drew (S := fun wy => Below H1 w1 wy) (by kernel_rfl) hB.drew (fun hS => ?_)
        have HO7 := Hid.intro (ownsRow_below HO.out (Below.refl _ wb).drew)
        have hB7 := hB.drew
        clear HO hB
        generalize wb.drew = wn at *
        obtain ⟨h0, hh0⟩ : ∃ h0, h0 = wn.heap.size := ⟨_, rfl⟩
        have hh : h0 ≤ wn.heap.size := by omega
        have hgo : g < h0 := by have h9 := (HO7.out.lt g rfl).2; omega
        have hH0 : H1 ≤ h0 := by have h9 := (HO7.out.lt g rfl).1; omega
        clear hh0
        refine wpAnyH_take (i := 1) (oi := { dst := some 42, op := _, type := _, pos := _, after := _, guard := none }) (v := .slice (some ⟨g, 0, none⟩) m q) rfl (by kernel_rfl) (by kernel_rfl) (by kernel_rfl) (fun _ _ _ h => h) (Or.inl ⟨by rfl, ?_⟩) hS ?_
        · intro wy hy
          clear hy
          go_simp
        simp only [Act.put, List.setIfInBounds_toArray, List.set_cons_zero, List.set_cons_succ]
        refine wpAnyH_take (i := 2) (oi := { dst := some 43, op := _, type := _, pos := _, after := _, guard := none }) (v := .int .i64 j) rfl (by kernel_rfl) (by kernel_rfl) (by kernel_rfl) (fun _ _ _ h => h) (Or.inl ⟨by rfl, ?_⟩) hS ?_
        · intro wy hy
          clear hy
          go_simp
        simp only [Act.put, List.setIfInBounds_toArray, List.set_cons_zero, List.set_cons_succ]
        refine wpAnyH_take (i := 3) (oi := { dst := some 44, op := _, type := _, pos := _, after := _, guard := none }) (v := .slice (some ⟨g, 0, none⟩) j q) rfl (by kernel_rfl) (by kernel_rfl) (by kernel_rfl) (fun _ _ _ h => h) (Or.inl ⟨by rfl, ?_⟩) hS ?_
        · intro wy hy
          clear hy
          (go_simp; try omega)
        simp only [Act.put, List.setIfInBounds_toArray, List.set_cons_zero, List.set_cons_succ]
        refine wpAnyH_take (i := 5) (oi := { dst := some 46, op := _, type := _, pos := _, after := _, guard := none }) (v := .pointer (some ⟨w.heap.size, 3, none⟩)) rfl (by kernel_rfl) (by kernel_rfl) (by kernel_rfl) (fun _ _ _ h => h) (Or.inl ⟨by rfl, ?_⟩) hS ?_
        · intro wy hy
          clear hy
          go_simp
        simp only [Act.put, List.setIfInBounds_toArray, List.set_cons_zero, List.set_cons_succ]
        refine wpAnyH_take (i := 6) (oi := { dst := some 47, op := _, type := _, pos := _, after := _, guard := none }) (v := .slice (some ⟨b3, o3, none⟩) x.copies.length c3) rfl (by kernel_rfl) (by kernel_rfl) (by kernel_rfl) (fun _ _ _ h => h) (Or.inl ⟨by rfl, ?_⟩) hS ?_
        · intro wy hy
          have h0 := (HF1.out.below hy (by have h9 := HH1.out; have h8 := HS1.out; omega)).2.2.2
          clear hy
          go_simp
        simp only [Act.put, List.setIfInBounds_toArray, List.set_cons_zero, List.set_cons_succ]
        refine wpAnyH_take (i := 7) (oi := { dst := some 48, op := _, type := _, pos := _, after := _, guard := none }) (v := .int .i64 k) rfl (by kernel_rfl) (by kernel_rfl) (by kernel_rfl) (fun _ _ _ h => h) (Or.inl ⟨by rfl, ?_⟩) hS ?_
        · intro wy hy
          clear hy
          go_simp
        simp only [Act.put, List.setIfInBounds_toArray, List.set_cons_zero, List.set_cons_succ]
        refine wpAnyH_take (i := 8) (oi := { dst := some 49, op := _, type := _, pos := _, after := _, guard := none }) (v := .pointer (some ⟨b3, o3 + k * 12, none⟩)) rfl (by kernel_rfl) (by kernel_rfl) (by kernel_rfl) (fun _ _ _ h => h) (Or.inl ⟨by rfl, ?_⟩) hS ?_
        · intro wy hy
          clear hy
          (go_simp; try omega)
        simp only [Act.put, List.setIfInBounds_toArray, List.set_cons_zero, List.set_cons_succ]
        refine wpAnyH_take (i := 9) (oi := { dst := some 50, op := _, type := _, pos := _, after := _, guard := none }) (v := .agg #[.string c.name, .string c.service, .int .i64 c.rank, .int .i64 c.born, .int .i64 c.room, .int .i64 c.hold, .string c.select, .slice la c.likes.length lc, .int .i64 c.apart, .string c.near, .string c.fixed, .string c.at_]) rfl (by kernel_rfl) (by kernel_rfl) (by kernel_rfl) (fun _ _ _ h => h) (yieldsIf_load_mid (by rfl) _ _ rfl b3 (o3 + k * 12) rfl [.string c.name, .string c.service, .int .i64 c.rank, .int .i64 c.born, .int .i64 c.room, .int .i64 c.hold, .string c.select, .slice la c.likes.length lc, .int .i64 c.apart, .string c.near, .string c.fixed, .string c.at_] _ (fun _ h => HRC.out _ h) Tryz.underlying65 rfl isz_Cpy) hS ?_
        simp only [Act.put, List.setIfInBounds_toArray, List.set_cons_zero, List.set_cons_succ]
        refine wpAnyH_take (i := 12) (oi := { dst := some 53, op := _, type := _, pos := _, after := _, guard := none }) (v := .slice (some ⟨g, 0, none⟩) m q) rfl (by kernel_rfl) (by kernel_rfl) (by kernel_rfl) (fun _ _ _ h => h) (Or.inl ⟨by rfl, ?_⟩) hS ?_
        · intro wy hy
          clear hy
          go_simp
        simp only [Act.put, List.setIfInBounds_toArray, List.set_cons_zero, List.set_cons_succ]
        refine wpAnyH_take (i := 13) (oi := { dst := some 54, op := _, type := _, pos := _, after := _, guard := none }) (v := .int .i64 j) rfl (by kernel_rfl) (by kernel_rfl) (by kernel_rfl) (fun _ _ _ h => h) (Or.inl ⟨by rfl, ?_⟩) hS ?_
        · intro wy hy
          clear hy
          go_simp
        simp only [Act.put, List.setIfInBounds_toArray, List.set_cons_zero, List.set_cons_succ]
        obtain ⟨rb, hrb, HRB⟩ : ∃ rb : Addr, (if q = j then some (⟨g, 0, none⟩ : Addr) else some ⟨g, j * 12, none⟩) = some rb ∧ Hid (∀ wy : World, wy.ownsRow H1 65 12 (.slice (some ⟨g, 0, none⟩) m q) m (rvQ x w b3 o3 L) → ∀ t u, (rvQ x w b3 o3 (L.drop j))[t]? = some u → wy.cell? (rb.add t) = some u) := by
          split
          · refine ⟨_, rfl, fun _ _ t u h => ?_⟩
            have h9 : L.drop j = [] := List.drop_eq_nil_of_le (by have := HLL.out; omega)
            rw [h9] at h
            simp [rvQ] at h
          · refine ⟨_, rfl, fun wy hy t u h => ?_⟩
            rw [rvQ_drop, List.getElem?_drop] at h
            rw [Addr.add_mid]
            exact rowQ_cell hy HLL.out.symm h
        refine wpAnyH_take (i := 14) (oi := { dst := some 55, op := _, type := _, pos := _, after := _, guard := none }) (v := .slice (some rb) (m - j) (q - j)) rfl (by kernel_rfl) (by kernel_rfl) (by kernel_rfl) (fun _ _ _ h => h) (Or.inl ⟨by rfl, ?_⟩) hS ?_
        · intro wy hy
          clear hy
          (rw [← hrb]; go_simp; try omega)
        simp only [Act.put, List.setIfInBounds_toArray, List.set_cons_zero, List.set_cons_succ]
        refine wpAnyH_ready (rs := [0, 10]) (by kernel_rfl) (by simp) (AllReadyH.cons (o := { dst := some 41, op := _, type := _, pos := _, after := _, guard := none }) rfl (fun KK hKK => ?_) (AllReadyH.cons (o := { dst := some 51, op := _, type := _, pos := _, after := _, guard := none }) rfl (fun KK hKK => ?_) AllReadyH.nil))
        · skip
          clear hS
          go_simp
          have hal : Below wn.heap.size wn (wn.alloc (Obj.cells #[] 65)) := (Below.refl _ _).alloc (Nat.le_refl _) _
          have HR : Hid ((wn.alloc (Obj.cells #[] 65)).ownsRow h0 65 12 (.slice (some ⟨wn.heap.size, 0, none⟩) 0 0) 0 []) := World.ownsRow_made wn #[] 0 hh (Nat.zero_le _) rfl
          have hg1 : g ≠ wn.heap.size := by omega
          replace HO7 := Hid.intro (HO7.out.alloc (Obj.cells #[] 65))
          replace hB7 := hB7.trans (hal.mono (by have h9 := HH1.out; have h8 := hB7.size; omega))
          replace hh := Nat.le_trans hh hal.size
          refine hKK.out _ _ hB7 (fun hS => ?_)
          clear hKK KK hal
          generalize wn.heap.size = g1 at *
          generalize wn.alloc (Obj.cells #[] 65) = wn at *
          refine wpAnyH_ready (rs := [4, 10]) (by kernel_rfl) (by simp) (AllReadyH.cons (o := { dst := some 45, op := _, type := _, pos := _, after := _, guard := none }) rfl (fun KK hKK => ?_) (AllReadyH.cons (o := { dst := some 51, op := _, type := _, pos := _, after := _, guard := none }) rfl (fun KK hKK => ?_) AllReadyH.nil))
          · skip
            clear hS
            have HNN : Hid (∀ t u, (rvQ x w b3 o3 (L.take j))[t]? = some u → wn.cell? ((⟨g, 0, none⟩ : Addr).add t) = some u) := by
              intro t u hu
              rw [rvQ_take] at hu
              rw [Addr.add_mid, Nat.zero_add]
              exact rowQ_cell HO7.out HLL.out.symm (get_take hu)
            have hgj := (HR.out.lt g1 rfl).1
            rw [if_pos (by rfl)]
            refine wp_append_at (.tmp 41) (.tmp 44) 32 (by rfl) h0 65 i0 _ 12 160 Tryz.underlying32 HI0.out hz0 hz1 hz2 rfl (by decide) _ 0 _ (by rfl) HR.out ⟨g, 0, none⟩ j q (rvQ x w b3 o3 (L.take j)) (by rfl) (by have h9 := HLL.out; rw [rvQ_len, List.length_take, Nat.min_eq_left (by omega)]) HNN.out (rvQ_one _ _ _ _ _) (by unfold maxLen; omega) (by omega) hh ?_
            intro v' wq hown hgrow hnil hblk
            have hv : v' ≠ .slice none 0 0 := (fun e => by have h9 := (hnil.1 e).1; cases h9)
            rw [Nat.zero_add, List.nil_append] at hown
            obtain ⟨e1, q1, rfl⟩ := rowfH hown hv
            have hgr : wn.grownBy wq (some g1) := hgrow
            have hbe : e1 = g1 ∨ e1 = wn.heap.size := by
              rcases hblk with h9 | h9
              · exact .inl (Option.some.inj h9)
              · exact .inr (Option.some.inj h9)
            have hge : e1 ≠ g := by have h9 := (HO7.out.lt g rfl).2; omega
            replace HO7 := Hid.intro (HO7.out.kept hgr (Or.inr (fun e => by have h9 : g = g1 := Option.some.inj e; omega)))
            replace HR := Hid.intro hown
            replace hB7 := hB7.grown hgr (by have h9 := HH1.out; have h8 := hB7.size; omega) (fun t e => by cases e; omega)
            replace hh := Nat.le_trans hh hgr.size
            refine hKK.out _ _ hB7 (fun hS => ?_)
            clear hKK KK hown hgrow hnil hblk hv hgr hbe hgj HNN
            generalize wq = wn at *
            refine wpAnyH_ready (rs := [10]) (by kernel_rfl) (by simp) (AllReadyH.cons (o := { dst := some 51, op := _, type := _, pos := _, after := _, guard := none }) rfl (fun KK hKK => ?_) AllReadyH.nil)
            clear hS
            go_simp
            have hal : Below wn.heap.size wn (wn.alloc (Obj.cells #[.string c.name, .string c.service, .int .i64 c.rank, .int .i64 c.born, .int .i64 c.room, .int .i64 c.hold, .string c.select, .slice la c.likes.length lc, .int .i64 c.apart, .string c.near, .string c.fixed, .string c.at_] 65)) := (Below.refl _ _).alloc (Nat.le_refl _) _
            have HK2 : Hid (Blk wn.heap.size #[.string c.name, .string c.service, .int .i64 c.rank, .int .i64 c.born, .int .i64 c.room, .int .i64 c.hold, .string c.select, .slice la c.likes.length lc, .int .i64 c.apart, .string c.near, .string c.fixed, .string c.at_] 65 (wn.alloc (Obj.cells #[.string c.name, .string c.service, .int .i64 c.rank, .int .i64 c.born, .int .i64 c.room, .int .i64 c.hold, .string c.select, .slice la c.likes.length lc, .int .i64 c.apart, .string c.near, .string c.fixed, .string c.at_] 65))) := Blk.alloc _ _ _
            have hn3 : wn.heap.size ≠ g := by omega
            have hn2 : wn.heap.size ≠ e1 := by have h9 := (HR.out.lt e1 rfl).2; omega
            replace HR := Hid.intro (HR.out.alloc (Obj.cells #[.string c.name, .string c.service, .int .i64 c.rank, .int .i64 c.born, .int .i64 c.room, .int .i64 c.hold, .string c.select, .slice la c.likes.length lc, .int .i64 c.apart, .string c.near, .string c.fixed, .string c.at_] 65))
            replace HO7 := Hid.intro (HO7.out.alloc (Obj.cells #[.string c.name, .string c.service, .int .i64 c.rank, .int .i64 c.born, .int .i64 c.room, .int .i64 c.hold, .string c.select, .slice la c.likes.length lc, .int .i64 c.apart, .string c.near, .string c.fixed, .string c.at_] 65))
            replace hB7 := hB7.trans (hal.mono (by have h9 := HH1.out; have h8 := hB7.size; omega))
            replace hh := Nat.le_trans hh hal.size
            refine hKK.out _ _ hB7 (fun hS => ?_)
            clear hKK KK hal
            generalize wn.heap.size = g2 at *
            generalize wn.alloc (Obj.cells #[.string c.name, .string c.service, .int .i64 c.rank, .int .i64 c.born, .int .i64 c.room, .int .i64 c.hold, .string c.select, .slice la c.likes.length lc, .int .i64 c.apart, .string c.near, .string c.fixed, .string c.at_] 65) = wn at *
            refine wpAnyH_ready (rs := [11]) (by kernel_rfl) (by simp) (AllReadyH.cons (o := { dst := some 52, op := _, type := _, pos := _, after := _, guard := none }) rfl (fun KK hKK => ?_) AllReadyH.nil)
            clear hS
            have HNN : Hid (∀ t u, ([.string c.name, .string c.service, .int .i64 c.rank, .int .i64 c.born, .int .i64 c.room, .int .i64 c.hold, .string c.select, .slice la c.likes.length lc, .int .i64 c.apart, .string c.near, .string c.fixed, .string c.at_] : List Value)[t]? = some u → wn.cell? ((⟨g2, 0, none⟩ : Addr).add t) = some u) := fun t u hu => by
              rw [Addr.add_mid, Nat.zero_add]
              exact HK2.out.cell ((List.getElem?_toArray ..).trans hu)
            have hgj := (HR.out.lt e1 rfl).1
            rw [if_pos (by rfl)]
            refine wp_append_at (.tmp 45) (.tmp 51) 32 (by rfl) h0 65 i0 _ 12 160 Tryz.underlying32 HI0.out hz0 hz1 hz2 rfl (by decide) _ j _ (by rfl) HR.out ⟨g2, 0, none⟩ 1 1 [.string c.name, .string c.service, .int .i64 c.rank, .int .i64 c.born, .int .i64 c.room, .int .i64 c.hold, .string c.select, .slice la c.likes.length lc, .int .i64 c.apart, .string c.near, .string c.fixed, .string c.at_] (by rfl) rfl HNN.out (by have h9 := vcQ_one x w b3 o3 k; rw [HVC.out] at h9; exact h9) (by unfold maxLen; omega) (by omega) hh ?_
            intro v' wq hown hgrow hnil hblk
            have hv : v' ≠ .slice none 0 0 := (fun e => by have h9 := (hnil.1 e).1; cases h9)
            skip
            obtain ⟨e2, q2, rfl⟩ := rowfH hown hv
            have hgr : wn.grownBy wq (some e1) := hgrow
            have hbe : e2 = e1 ∨ e2 = wn.heap.size := by
              rcases hblk with h9 | h9
              · exact .inl (Option.some.inj h9)
              · exact .inr (Option.some.inj h9)
            have hge : e2 ≠ g := by have h9 := (HO7.out.lt g rfl).2; omega
            replace HO7 := Hid.intro (HO7.out.kept hgr (Or.inr (fun e => by have h9 : g = e1 := Option.some.inj e; omega)))
            replace HR := Hid.intro hown
            replace hB7 := hB7.grown hgr (by have h9 := HH1.out; have h8 := hB7.size; omega) (fun t e => by cases e; omega)
            replace hh := Nat.le_trans hh hgr.size
            refine hKK.out _ _ hB7 (fun hS => ?_)
            clear hKK KK hown hgrow hnil hblk hv hgr hbe hgj HNN
            generalize wq = wn at *
            refine wpAnyH_ready (rs := [15]) (by kernel_rfl) (by simp) (AllReadyH.cons (o := { dst := some 56, op := _, type := _, pos := _, after := _, guard := none }) rfl (fun KK hKK => ?_) AllReadyH.nil)
            clear hS
            have HNN : Hid (∀ t u, (rvQ x w b3 o3 (L.drop j))[t]? = some u → wn.cell? (rb.add t) = some u) := HRB.out _ HO7.out
            have hgj := (HR.out.lt e2 rfl).1
            rw [if_pos (by rfl)]
            refine wp_append_at (.tmp 52) (.tmp 55) 32 (by rfl) h0 65 i0 _ 12 160 Tryz.underlying32 HI0.out hz0 hz1 hz2 rfl (by decide) _ (j + 1) _ (by rfl) HR.out rb (m - j) (q - j) (rvQ x w b3 o3 (L.drop j)) (by rfl) (by have h9 := HLL.out; rw [rvQ_len, List.length_drop, h9]) HNN.out (rvQ_one _ _ _ _ _) (by unfold maxLen; omega) (by omega) hh ?_
            intro v' wq hown hgrow hnil hblk
            have hv : v' ≠ .slice none 0 0 := (fun e => by have h9 := (hnil.1 e).1; cases h9)
            skip
            obtain ⟨e3, q3, rfl⟩ := rowfH hown hv
            have hgr : wn.grownBy wq (some e2) := hgrow
            have hbe : e3 = e2 ∨ e3 = wn.heap.size := by
              rcases hblk with h9 | h9
              · exact .inl (Option.some.inj h9)
              · exact .inr (Option.some.inj h9)
            have hge : e3 ≠ g := by have h9 := (HO7.out.lt g rfl).2; omega
            replace HO7 := Hid.intro (HO7.out.kept hgr (Or.inr (fun e => by have h9 : g = e2 := Option.some.inj e; omega)))
            replace HR := Hid.intro hown
            replace hB7 := hB7.grown hgr (by have h9 := HH1.out; have h8 := hB7.size; omega) (fun t e => by cases e; omega)
            replace hh := Nat.le_trans hh hgr.size
            refine hKK.out _ _ hB7 (fun hS => ?_)
            clear hKK KK hown hgrow hnil hblk hv hgr hbe hgj HNN
            generalize wq = wn at *
            have hke : j + 1 + (m - j) = m + 1 := by omega
            have HR9 : Hid (wn.ownsRow H1 65 12 (.slice (some ⟨e3, 0, none⟩) (m + 1) q3) (m + 1) (rvQ x w b3 o3 (insQ (ltF (cfQ x)) L k))) := by
              have h9 := own_mono HR.out hH0
              rw [hke] at h9
              rw [HID.out, rvQ_app]
              show World.ownsRow _ _ _ _ _ _ (rvQ x w b3 o3 (L.take j) ++ (vcQ x w b3 o3 k ++ rvQ x w b3 o3 (L.drop j)))
              rw [HVC.out, ← List.append_assoc]
              exact h9
            rw [hke]
            refine wpAnyH_take (i := 16) (oi := { dst := some 3, op := _, type := _, pos := _, after := _, guard := none }) (v := .slice (some ⟨e3, 0, none⟩) (m + 1) q3) rfl (by kernel_rfl) (by kernel_rfl) (by kernel_rfl) (fun _ _ _ h => h) (Or.inl ⟨by rfl, ?_⟩) hS ?_
            · intro wy hy
              clear hy
              go_simp
            simp only [Act.put, List.setIfInBounds_toArray, List.set_cons_zero, List.set_cons_succ]
            refine wpAnyH_done (by kernel_rfl) ?_ _
            clear hS
            have HLN : Hid ((insQ (ltF (cfQ x)) L k).length = m + 1) := by show _ = _; rw [(insQ_perm _ _ _).length_eq, List.length_append, HLL.out]; rfl
            clear HR HO7 HLL HRB HID HA
            go_wp2_with fail
            go_roundw
            case rel => exact ⟨k + 1, e3, q3, m + 1, insQ (ltF (cfQ x)) L k, by omega, by omega, by go_num, rfl, HSN.out.symm, HLN, HR9, hB7⟩
            case measure => simp [intOf]; omega
          · skip
            clear hS
            go_simp
            have hal : Below wn.heap.size wn (wn.alloc (Obj.cells #[.string c.name, .string c.service, .int .i64 c.rank, .int .i64 c.born, .int .i64 c.room, .int .i64 c.hold, .string c.select, .slice la c.likes.length lc, .int .i64 c.apart, .string c.near, .string c.fixed, .string c.at_] 65)) := (Below.refl _ _).alloc (Nat.le_refl _) _
            have HK2 : Hid (Blk wn.heap.size #[.string c.name, .string c.service, .int .i64 c.rank, .int .i64 c.born, .int .i64 c.room, .int .i64 c.hold, .string c.select, .slice la c.likes.length lc, .int .i64 c.apart, .string c.near, .string c.fixed, .string c.at_] 65 (wn.alloc (Obj.cells #[.string c.name, .string c.service, .int .i64 c.rank, .int .i64 c.born, .int .i64 c.room, .int .i64 c.hold, .string c.select, .slice la c.likes.length lc, .int .i64 c.apart, .string c.near, .string c.fixed, .string c.at_] 65))) := Blk.alloc _ _ _
            have hn3 : wn.heap.size ≠ g := by omega
            have hn2 : wn.heap.size ≠ g1 := by have h9 := (HR.out.lt g1 rfl).2; omega
            replace HR := Hid.intro (HR.out.alloc (Obj.cells #[.string c.name, .string c.service, .int .i64 c.rank, .int .i64 c.born, .int .i64 c.room, .int .i64 c.hold, .string c.select, .slice la c.likes.length lc, .int .i64 c.apart, .string c.near, .string c.fixed, .string c.at_] 65))
            replace HO7 := Hid.intro (HO7.out.alloc (Obj.cells #[.string c.name, .string c.service, .int .i64 c.rank, .int .i64 c.born, .int .i64 c.room, .int .i64 c.hold, .string c.select, .slice la c.likes.length lc, .int .i64 c.apart, .string c.near, .string c.fixed, .string c.at_] 65))
            replace hB7 := hB7.trans (hal.mono (by have h9 := HH1.out; have h8 := hB7.size; omega))
            replace hh := Nat.le_trans hh hal.size
            refine hKK.out _ _ hB7 (fun hS => ?_)
            clear hKK KK hal
            generalize wn.heap.size = g2 at *
            generalize wn.alloc (Obj.cells #[.string c.name, .string c.service, .int .i64 c.rank, .int .i64 c.born, .int .i64 c.room, .int .i64 c.hold, .string c.select, .slice la c.likes.length lc, .int .i64 c.apart, .string c.near, .string c.fixed, .string c.at_] 65) = wn at *
            refine wpAnyH_ready (rs := [4]) (by kernel_rfl) (by simp) (AllReadyH.cons (o := { dst := some 45, op := _, type := _, pos := _, after := _, guard := none }) rfl (fun KK hKK => ?_) AllReadyH.nil)
            clear hS
            have HNN : Hid (∀ t u, (rvQ x w b3 o3 (L.take j))[t]? = some u → wn.cell? ((⟨g, 0, none⟩ : Addr).add t) = some u) := by
              intro t u hu
              rw [rvQ_take] at hu
              rw [Addr.add_mid, Nat.zero_add]
              exact rowQ_cell HO7.out HLL.out.symm (get_take hu)
            have hgj := (HR.out.lt g1 rfl).1
            rw [if_pos (by rfl)]
            refine wp_append_at (.tmp 41) (.tmp 44) 32 (by rfl) h0 65 i0 _ 12 160 Tryz.underlying32 HI0.out hz0 hz1 hz2 rfl (by decide) _ 0 _ (by rfl) HR.out ⟨g, 0, none⟩ j q (rvQ x w b3 o3 (L.take j)) (by rfl) (by have h9 := HLL.out; rw [rvQ_len, List.length_take, Nat.min_eq_left (by omega)]) HNN.out (rvQ_one _ _ _ _ _) (by unfold maxLen; omega) (by omega) hh ?_
            intro v' wq hown hgrow hnil hblk
            have hv : v' ≠ .slice none 0 0 := (fun e => by have h9 := (hnil.1 e).1; cases h9)
            rw [Nat.zero_add, List.nil_append] at hown
            obtain ⟨e1, q1, rfl⟩ := rowfH hown hv
            have hgr : wn.grownBy wq (some g1) := hgrow
            have hbe : e1 = g1 ∨ e1 = wn.heap.size := by
              rcases hblk with h9 | h9
              · exact .inl (Option.some.inj h9)
              · exact .inr (Option.some.inj h9)
            have hn4 : e1 ≠ g2 := by have h9 := HK2.out.lt; omega
            replace HK2 := Hid.intro (blk_grownR HK2.out hgr (by omega))
            have hge : e1 ≠ g := by have h9 := (HO7.out.lt g rfl).2; omega
            replace HO7 := Hid.intro (HO7.out.kept hgr (Or.inr (fun e => by have h9 : g = g1 := Option.some.inj e; omega)))
            replace HR := Hid.intro hown
            replace hB7 := hB7.grown hgr (by have h9 := HH1.out; have h8 := hB7.size; omega) (fun t e => by cases e; omega)
            replace hh := Nat.le_trans hh hgr.size
            refine hKK.out _ _ hB7 (fun hS => ?_)
            clear hKK KK hown hgrow hnil hblk hv hgr hbe hgj HNN
            generalize wq = wn at *
            refine wpAnyH_ready (rs := [11]) (by kernel_rfl) (by simp) (AllReadyH.cons (o := { dst := some 52, op := _, type := _, pos := _, after := _, guard := none }) rfl (fun KK hKK => ?_) AllReadyH.nil)
            clear hS
            have HNN : Hid (∀ t u, ([.string c.name, .string c.service, .int .i64 c.rank, .int .i64 c.born, .int .i64 c.room, .int .i64 c.hold, .string c.select, .slice la c.likes.length lc, .int .i64 c.apart, .string c.near, .string c.fixed, .string c.at_] : List Value)[t]? = some u → wn.cell? ((⟨g2, 0, none⟩ : Addr).add t) = some u) := fun t u hu => by
              rw [Addr.add_mid, Nat.zero_add]
              exact HK2.out.cell ((List.getElem?_toArray ..).trans hu)
            have hgj := (HR.out.lt e1 rfl).1
            rw [if_pos (by rfl)]
            refine wp_append_at (.tmp 45) (.tmp 51) 32 (by rfl) h0 65 i0 _ 12 160 Tryz.underlying32 HI0.out hz0 hz1 hz2 rfl (by decide) _ j _ (by rfl) HR.out ⟨g2, 0, none⟩ 1 1 [.string c.name, .string c.service, .int .i64 c.rank, .int .i64 c.born, .int .i64 c.room, .int .i64 c.hold, .string c.select, .slice la c.likes.length lc, .int .i64 c.apart, .string c.near, .string c.fixed, .string c.at_] (by rfl) rfl HNN.out (by have h9 := vcQ_one x w b3 o3 k; rw [HVC.out] at h9; exact h9) (by unfold maxLen; omega) (by omega) hh ?_
            intro v' wq hown hgrow hnil hblk
            have hv : v' ≠ .slice none 0 0 := (fun e => by have h9 := (hnil.1 e).1; cases h9)
            skip
            obtain ⟨e2, q2, rfl⟩ := rowfH hown hv
            have hgr : wn.grownBy wq (some e1) := hgrow
            have hbe : e2 = e1 ∨ e2 = wn.heap.size := by
              rcases hblk with h9 | h9
              · exact .inl (Option.some.inj h9)
              · exact .inr (Option.some.inj h9)
            have hge : e2 ≠ g := by have h9 := (HO7.out.lt g rfl).2; omega
            replace HO7 := Hid.intro (HO7.out.kept hgr (Or.inr (fun e => by have h9 : g = e1 := Option.some.inj e; omega)))
            replace HR := Hid.intro hown
            replace hB7 := hB7.grown hgr (by have h9 := HH1.out; have h8 := hB7.size; omega) (fun t e => by cases e; omega)
            replace hh := Nat.le_trans hh hgr.size
            refine hKK.out _ _ hB7 (fun hS => ?_)
            clear hKK KK hown hgrow hnil hblk hv hgr hbe hgj HNN
            generalize wq = wn at *
            refine wpAnyH_ready (rs := [15]) (by kernel_rfl) (by simp) (AllReadyH.cons (o := { dst := some 56, op := _, type := _, pos := _, after := _, guard := none }) rfl (fun KK hKK => ?_) AllReadyH.nil)
            clear hS
            have HNN : Hid (∀ t u, (rvQ x w b3 o3 (L.drop j))[t]? = some u → wn.cell? (rb.add t) = some u) := HRB.out _ HO7.out
            have hgj := (HR.out.lt e2 rfl).1
            rw [if_pos (by rfl)]
            refine wp_append_at (.tmp 52) (.tmp 55) 32 (by rfl) h0 65 i0 _ 12 160 Tryz.underlying32 HI0.out hz0 hz1 hz2 rfl (by decide) _ (j + 1) _ (by rfl) HR.out rb (m - j) (q - j) (rvQ x w b3 o3 (L.drop j)) (by rfl) (by have h9 := HLL.out; rw [rvQ_len, List.length_drop, h9]) HNN.out (rvQ_one _ _ _ _ _) (by unfold maxLen; omega) (by omega) hh ?_
            intro v' wq hown hgrow hnil hblk
            have hv : v' ≠ .slice none 0 0 := (fun e => by have h9 := (hnil.1 e).1; cases h9)
            skip
            obtain ⟨e3, q3, rfl⟩ := rowfH hown hv
            have hgr : wn.grownBy wq (some e2) := hgrow
            have hbe : e3 = e2 ∨ e3 = wn.heap.size := by
              rcases hblk with h9 | h9
              · exact .inl (Option.some.inj h9)
              · exact .inr (Option.some.inj h9)
            have hge : e3 ≠ g := by have h9 := (HO7.out.lt g rfl).2; omega
            replace HO7 := Hid.intro (HO7.out.kept hgr (Or.inr (fun e => by have h9 : g = e2 := Option.some.inj e; omega)))
            replace HR := Hid.intro hown
            replace hB7 := hB7.grown hgr (by have h9 := HH1.out; have h8 := hB7.size; omega) (fun t e => by cases e; omega)
            replace hh := Nat.le_trans hh hgr.size
            refine hKK.out _ _ hB7 (fun hS => ?_)
            clear hKK KK hown hgrow hnil hblk hv hgr hbe hgj HNN
            generalize wq = wn at *
            have hke : j + 1 + (m - j) = m + 1 := by omega
            have HR9 : Hid (wn.ownsRow H1 65 12 (.slice (some ⟨e3, 0, none⟩) (m + 1) q3) (m + 1) (rvQ x w b3 o3 (insQ (ltF (cfQ x)) L k))) := by
              have h9 := own_mono HR.out hH0
              rw [hke] at h9
              rw [HID.out, rvQ_app]
              show World.ownsRow _ _ _ _ _ _ (rvQ x w b3 o3 (L.take j) ++ (vcQ x w b3 o3 k ++ rvQ x w b3 o3 (L.drop j)))
              rw [HVC.out, ← List.append_assoc]
              exact h9
            rw [hke]
            refine wpAnyH_take (i := 16) (oi := { dst := some 3, op := _, type := _, pos := _, after := _, guard := none }) (v := .slice (some ⟨e3, 0, none⟩) (m + 1) q3) rfl (by kernel_rfl) (by kernel_rfl) (by kernel_rfl) (fun _ _ _ h => h) (Or.inl ⟨by rfl, ?_⟩) hS ?_
            · intro wy hy
              clear hy
              go_simp
            simp only [Act.put, List.setIfInBounds_toArray, List.set_cons_zero, List.set_cons_succ]
            refine wpAnyH_done (by kernel_rfl) ?_ _
            clear hS
            have HLN : Hid ((insQ (ltF (cfQ x)) L k).length = m + 1) := by show _ = _; rw [(insQ_perm _ _ _).length_eq, List.length_append, HLL.out]; rfl
            clear HR HO7 HLL HRB HID HA
            go_wp2_with fail
            go_roundw
            case rel => exact ⟨k + 1, e3, q3, m + 1, insQ (ltF (cfQ x)) L k, by omega, by omega, by go_num, rfl, HSN.out.symm, HLN, HR9, hB7⟩
            case measure => simp [intOf]; omega
        · skip
          clear hS
          go_simp
          have hal : Below wn.heap.size wn (wn.alloc (Obj.cells #[.string c.name, .string c.service, .int .i64 c.rank, .int .i64 c.born, .int .i64 c.room, .int .i64 c.hold, .string c.select, .slice la c.likes.length lc, .int .i64 c.apart, .string c.near, .string c.fixed, .string c.at_] 65)) := (Below.refl _ _).alloc (Nat.le_refl _) _
          have HK2 : Hid (Blk wn.heap.size #[.string c.name, .string c.service, .int .i64 c.rank, .int .i64 c.born, .int .i64 c.room, .int .i64 c.hold, .string c.select, .slice la c.likes.length lc, .int .i64 c.apart, .string c.near, .string c.fixed, .string c.at_] 65 (wn.alloc (Obj.cells #[.string c.name, .string c.service, .int .i64 c.rank, .int .i64 c.born, .int .i64 c.room, .int .i64 c.hold, .string c.select, .slice la c.likes.length lc, .int .i64 c.apart, .string c.near, .string c.fixed, .string c.at_] 65))) := Blk.alloc _ _ _
          have hn3 : wn.heap.size ≠ g := by omega
          replace HO7 := Hid.intro (HO7.out.alloc (Obj.cells #[.string c.name, .string c.service, .int .i64 c.rank, .int .i64 c.born, .int .i64 c.room, .int .i64 c.hold, .string c.select, .slice la c.likes.length lc, .int .i64 c.apart, .string c.near, .string c.fixed, .string c.at_] 65))
          replace hB7 := hB7.trans (hal.mono (by have h9 := HH1.out; have h8 := hB7.size; omega))
          replace hh := Nat.le_trans hh hal.size
          refine hKK.out _ _ hB7 (fun hS => ?_)
          clear hKK KK hal
          generalize wn.heap.size = g2 at *
          generalize wn.alloc (Obj.cells #[.string c.name, .string c.service, .int .i64 c.rank, .int .i64 c.born, .int .i64 c.room, .int .i64 c.hold, .string c.select, .slice la c.likes.length lc, .int .i64 c.apart, .string c.near, .string c.fixed, .string c.at_] 65) = wn at *
          refine wpAnyH_ready (rs := [0]) (by kernel_rfl) (by simp) (AllReadyH.cons (o := { dst := some 41, op := _, type := _, pos := _, after := _, guard := none }) rfl (fun KK hKK => ?_) AllReadyH.nil)
          clear hS
          go_simp
          have hal : Below wn.heap.size wn (wn.alloc (Obj.cells #[] 65)) := (Below.refl _ _).alloc (Nat.le_refl _) _
          have HR : Hid ((wn.alloc (Obj.cells #[] 65)).ownsRow h0 65 12 (.slice (some ⟨wn.heap.size, 0, none⟩) 0 0) 0 []) := World.ownsRow_made wn #[] 0 hh (Nat.zero_le _) rfl
          have hg1 : g ≠ wn.heap.size := by omega
          have hn2 : g2 ≠ wn.heap.size := by have h9 := HK2.out.lt; omega
          replace HK2 := Hid.intro (HK2.out.below hal HK2.out.lt)
          replace HO7 := Hid.intro (HO7.out.alloc (Obj.cells #[] 65))
          replace hB7 := hB7.trans (hal.mono (by have h9 := HH1.out; have h8 := hB7.size; omega))
          replace hh := Nat.le_trans hh hal.size
          refine hKK.out _ _ hB7 (fun hS => ?_)
          clear hKK KK hal
          generalize wn.heap.size = g1 at *
          generalize wn.alloc (Obj.cells #[] 65) = wn at *
          refine wpAnyH_ready (rs := [4]) (by kernel_rfl) (by simp) (AllReadyH.cons (o := { dst := some 45, op := _, type := _, pos := _, after := _, guard := none }) rfl (fun KK hKK => ?_) AllReadyH.nil)
          clear hS
          have HNN : Hid (∀ t u, (rvQ x w b3 o3 (L.take j))[t]? = some u → wn.cell? ((⟨g, 0, none⟩ : Addr).add t) = some u) := by
            intro t u hu
            rw [rvQ_take] at hu
            rw [Addr.add_mid, Nat.zero_add]
            exact rowQ_cell HO7.out HLL.out.symm (get_take hu)
          have hgj := (HR.out.lt g1 rfl).1
          rw [if_pos (by rfl)]
          refine wp_append_at (.tmp 41) (.tmp 44) 32 (by rfl) h0 65 i0 _ 12 160 Tryz.underlying32 HI0.out hz0 hz1 hz2 rfl (by decide) _ 0 _ (by rfl) HR.out ⟨g, 0, none⟩ j q (rvQ x w b3 o3 (L.take j)) (by rfl) (by have h9 := HLL.out; rw [rvQ_len, List.length_take, Nat.min_eq_left (by omega)]) HNN.out (rvQ_one _ _ _ _ _) (by unfold maxLen; omega) (by omega) hh ?_
          intro v' wq hown hgrow hnil hblk
          have hv : v' ≠ .slice none 0 0 := (fun e => by have h9 := (hnil.1 e).1; cases h9)
          rw [Nat.zero_add, List.nil_append] at hown
          obtain ⟨e1, q1, rfl⟩ := rowfH hown hv
          have hgr : wn.grownBy wq (some g1) := hgrow
          have hbe : e1 = g1 ∨ e1 = wn.heap.size := by
            rcases hblk with h9 | h9
            · exact .inl (Option.some.inj h9)
            · exact .inr (Option.some.inj h9)
          have hn4 : e1 ≠ g2 := by have h9 := HK2.out.lt; omega
          replace HK2 := Hid.intro (blk_grownR HK2.out hgr (by omega))
          have hge : e1 ≠ g := by have h9 := (HO7.out.lt g rfl).2; omega
          replace HO7 := Hid.intro (HO7.out.kept hgr (Or.inr (fun e => by have h9 : g = g1 := Option.some.inj e; omega)))
          replace HR := Hid.intro hown
          replace hB7 := hB7.grown hgr (by have h9 := HH1.out; have h8 := hB7.size; omega) (fun t e => by cases e; omega)
          replace hh := Nat.le_trans hh hgr.size
          refine hKK.out _ _ hB7 (fun hS => ?_)
          clear hKK KK hown hgrow hnil hblk hv hgr hbe hgj HNN
          generalize wq = wn at *
          refine wpAnyH_ready (rs := [11]) (by kernel_rfl) (by simp) (AllReadyH.cons (o := { dst := some 52, op := _, type := _, pos := _, after := _, guard := none }) rfl (fun KK hKK => ?_) AllReadyH.nil)
          clear hS
          have HNN : Hid (∀ t u, ([.string c.name, .string c.service, .int .i64 c.rank, .int .i64 c.born, .int .i64 c.room, .int .i64 c.hold, .string c.select, .slice la c.likes.length lc, .int .i64 c.apart, .string c.near, .string c.fixed, .string c.at_] : List Value)[t]? = some u → wn.cell? ((⟨g2, 0, none⟩ : Addr).add t) = some u) := fun t u hu => by
            rw [Addr.add_mid, Nat.zero_add]
            exact HK2.out.cell ((List.getElem?_toArray ..).trans hu)
          have hgj := (HR.out.lt e1 rfl).1
          rw [if_pos (by rfl)]
          refine wp_append_at (.tmp 45) (.tmp 51) 32 (by rfl) h0 65 i0 _ 12 160 Tryz.underlying32 HI0.out hz0 hz1 hz2 rfl (by decide) _ j _ (by rfl) HR.out ⟨g2, 0, none⟩ 1 1 [.string c.name, .string c.service, .int .i64 c.rank, .int .i64 c.born, .int .i64 c.room, .int .i64 c.hold, .string c.select, .slice la c.likes.length lc, .int .i64 c.apart, .string c.near, .string c.fixed, .string c.at_] (by rfl) rfl HNN.out (by have h9 := vcQ_one x w b3 o3 k; rw [HVC.out] at h9; exact h9) (by unfold maxLen; omega) (by omega) hh ?_
          intro v' wq hown hgrow hnil hblk
          have hv : v' ≠ .slice none 0 0 := (fun e => by have h9 := (hnil.1 e).1; cases h9)
          skip
          obtain ⟨e2, q2, rfl⟩ := rowfH hown hv
          have hgr : wn.grownBy wq (some e1) := hgrow
          have hbe : e2 = e1 ∨ e2 = wn.heap.size := by
            rcases hblk with h9 | h9
            · exact .inl (Option.some.inj h9)
            · exact .inr (Option.some.inj h9)
          have hge : e2 ≠ g := by have h9 := (HO7.out.lt g rfl).2; omega
          replace HO7 := Hid.intro (HO7.out.kept hgr (Or.inr (fun e => by have h9 : g = e1 := Option.some.inj e; omega)))
          replace HR := Hid.intro hown
          replace hB7 := hB7.grown hgr (by have h9 := HH1.out; have h8 := hB7.size; omega) (fun t e => by cases e; omega)
          replace hh := Nat.le_trans hh hgr.size
          refine hKK.out _ _ hB7 (fun hS => ?_)
          clear hKK KK hown hgrow hnil hblk hv hgr hbe hgj HNN
          generalize wq = wn at *
          refine wpAnyH_ready (rs := [15]) (by kernel_rfl) (by simp) (AllReadyH.cons (o := { dst := some 56, op := _, type := _, pos := _, after := _, guard := none }) rfl (fun KK hKK => ?_) AllReadyH.nil)
          clear hS
          have HNN : Hid (∀ t u, (rvQ x w b3 o3 (L.drop j))[t]? = some u → wn.cell? (rb.add t) = some u) := HRB.out _ HO7.out
          have hgj := (HR.out.lt e2 rfl).1
          rw [if_pos (by rfl)]
          refine wp_append_at (.tmp 52) (.tmp 55) 32 (by rfl) h0 65 i0 _ 12 160 Tryz.underlying32 HI0.out hz0 hz1 hz2 rfl (by decide) _ (j + 1) _ (by rfl) HR.out rb (m - j) (q - j) (rvQ x w b3 o3 (L.drop j)) (by rfl) (by have h9 := HLL.out; rw [rvQ_len, List.length_drop, h9]) HNN.out (rvQ_one _ _ _ _ _) (by unfold maxLen; omega) (by omega) hh ?_
          intro v' wq hown hgrow hnil hblk
          have hv : v' ≠ .slice none 0 0 := (fun e => by have h9 := (hnil.1 e).1; cases h9)
          skip
          obtain ⟨e3, q3, rfl⟩ := rowfH hown hv
          have hgr : wn.grownBy wq (some e2) := hgrow
          have hbe : e3 = e2 ∨ e3 = wn.heap.size := by
            rcases hblk with h9 | h9
            · exact .inl (Option.some.inj h9)
            · exact .inr (Option.some.inj h9)
          have hge : e3 ≠ g := by have h9 := (HO7.out.lt g rfl).2; omega
          replace HO7 := Hid.intro (HO7.out.kept hgr (Or.inr (fun e => by have h9 : g = e2 := Option.some.inj e; omega)))
          replace HR := Hid.intro hown
          replace hB7 := hB7.grown hgr (by have h9 := HH1.out; have h8 := hB7.size; omega) (fun t e => by cases e; omega)
          replace hh := Nat.le_trans hh hgr.size
          refine hKK.out _ _ hB7 (fun hS => ?_)
          clear hKK KK hown hgrow hnil hblk hv hgr hbe hgj HNN
          generalize wq = wn at *
          have hke : j + 1 + (m - j) = m + 1 := by omega
          have HR9 : Hid (wn.ownsRow H1 65 12 (.slice (some ⟨e3, 0, none⟩) (m + 1) q3) (m + 1) (rvQ x w b3 o3 (insQ (ltF (cfQ x)) L k))) := by
            have h9 := own_mono HR.out hH0
            rw [hke] at h9
            rw [HID.out, rvQ_app]
            show World.ownsRow _ _ _ _ _ _ (rvQ x w b3 o3 (L.take j) ++ (vcQ x w b3 o3 k ++ rvQ x w b3 o3 (L.drop j)))
            rw [HVC.out, ← List.append_assoc]
            exact h9
          rw [hke]
          refine wpAnyH_take (i := 16) (oi := { dst := some 3, op := _, type := _, pos := _, after := _, guard := none }) (v := .slice (some ⟨e3, 0, none⟩) (m + 1) q3) rfl (by kernel_rfl) (by kernel_rfl) (by kernel_rfl) (fun _ _ _ h => h) (Or.inl ⟨by rfl, ?_⟩) hS ?_
          · intro wy hy
            clear hy
            go_simp
          simp only [Act.put, List.setIfInBounds_toArray, List.set_cons_zero, List.set_cons_succ]
          refine wpAnyH_done (by kernel_rfl) ?_ _
          clear hS
          have HLN : Hid ((insQ (ltF (cfQ x)) L k).length = m + 1) := by show _ = _; rw [(insQ_perm _ _ _).length_eq, List.length_append, HLL.out]; rfl
          clear HR HO7 HLL HRB HID HA
          go_wp2_with fail
          go_roundw
          case rel => exact ⟨k + 1, e3, q3, m + 1, insQ (ltF (cfQ x)) L k, by omega, by omega, by go_num, rfl, HSN.out.symm, HLN, HR9, hB7⟩
          case measure => simp [intOf]; omega

end Go.Proofs.YtggbhggnemlpnaaGreat
