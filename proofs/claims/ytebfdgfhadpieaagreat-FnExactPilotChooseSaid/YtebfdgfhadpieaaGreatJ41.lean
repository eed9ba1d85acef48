import Derived.DeepKeys4
import Derived.Test.YtebfdgfhadpieaaGreatJ38
namespace Go.Proofs.YtebfdgfhadpieaaGreat
set_option maxRecDepth 100000
open Go.RowKit Go.WideMaps Go.Maps
theorem laidOutQ : laidOutB Tryz.prog = true := by kernel_rfl
theorem rowQ : (185 : TypeId) < Tryz.prog.types.size := of_decide_eq_true (by kernel_rfl)
theorem wideQ : (match Tryz.prog.underlying 185 with | some (.array _ _) | some (.struct _) => true | _ => false) = true := by rw [Tryz.underlying185]
theorem law_q : Keyed Tryz.prog 185 := Keyed.of_law (deep_law_laid laidOutQ (m := 2) (by decide) rowQ (by kernel_rfl) wideQ)
def ansElem (v : Value) : Option (DataW Unit × List MemPlace) := match v with
 | .agg cs => match cs.toList with
  | [.bool x] => some (.lit (.bool x), [])
  | _ => none
 | _ => none
theorem ansElem_mk (x : Bool) : ansElem (.agg #[.bool x]) = some (.lit (.bool x), []) := rfl
theorem ansElem_inv {v : Value} {z : DataW Unit × List MemPlace} (h : ansElem v = some z) : ∃ x, v = .agg #[.bool x] ∧ z = (.lit (.bool x), []) := by
 cases v with
 | agg cs =>
  obtain ⟨l⟩ := cs
  match l, h with
  | [.bool x], h => exact ⟨x, rfl, (Option.some.inj h).symm⟩
 | _ => cases h
theorem keyTypeQ : Tryz.prog.keyType 185 = true := by kernel_rfl
theorem formedQ (t : ByteArray) (k : Int) : (Value.agg #[.string t, .int .i64 k]).formed Tryz.prog 185 = true := by kernel_rfl
theorem cellsQ : Tryz.prog.cellsOf 185 = 2 := by kernel_rfl
theorem cellsS : Tryz.prog.cellsOf 9 = 1 := by kernel_rfl
theorem cellsI : Tryz.prog.cellsOf 3 = 1 := by kernel_rfl
theorem litsS (d : Nat) {t : ByteArray} (ht : t.size ≤ maxLen) : Tryz.prog.keyLits (d + 1) 9 [.string t] = some [.string t.data.toList] := by
 unfold Program.keyLits
 rw [Tryz.underlying9]
 exact if_pos ht
theorem litsI (d : Nat) {k : Int} (hk : (Lit.int .i64 k).wf = true) : Tryz.prog.keyLits (d + 1) 3 [.int .i64 k] = some [.int .i64 k] := by
 unfold Program.keyLits
 rw [Tryz.underlying3]
 exact if_pos ⟨rfl, hk⟩
theorem keyQ (t : ByteArray) (k : Nat) (ht : t.size ≤ maxLen) (hk : k ≤ 1048576) : ∃ l, keyOf Tryz.prog 185 (.agg #[.string t, .int .i64 k]) = some l := by
 have hw : (Lit.int .i64 (k : Int)).wf = true := WalkArith.wf_i64 (by omega)
 obtain ⟨d, hd⟩ : ∃ d, Tryz.prog.types.size = d + 1 := ⟨260 - 1, by kernel_rfl⟩
 unfold keyOf
 rw [Tryz.underlying185]
 simp only [keyTypeQ, formedQ, Bool.and_self, if_true]
 rw [hd]
 unfold Program.keyLits
 rw [Tryz.underlying185]
 refine ⟨.string (keyBytes [.string t.data.toList, .int .i64 k]), ?_⟩
 have hc : (Value.agg #[Value.string t, Value.int IntKind.i64 k]).cells.toList = [.string t, .int .i64 k] := rfl
 rw [hc]
 simp only [cellsQ, List.length_cons, List.length_nil]
 rw [if_pos ⟨trivial, by kernel_rfl⟩]
 simp only [List.mapM_cons, List.mapM_nil, cellsS, cellsI, List.drop_zero, List.take_succ_cons, List.take_zero, List.drop_succ_cons, litsS d ht, litsI d hw]
 rfl
def MemoOk (bs : List Brt) (D : DataW Unit) : Prop := IsMap D ∧ ∀ (t : ByteArray) (k : Nat) (b : Brt) (l : Lit), bs[k]? = some b → keyOf Tryz.prog 185 (.agg #[.string t, .int .i64 ((k : Nat) : Int)]) = some l → has D l = true → D.atKey l (.lit (.bool false)) = .lit (.bool (asksI t b.marks b.zone))
theorem MemoOk.nil (bs : List Brt) : MemoOk bs (.map []) := ⟨⟨_, rfl⟩, fun _ _ _ _ _ _ h => by cases h⟩
theorem MemoOk.put {bs : List Brt} {D : DataW Unit} {t : ByteArray} {k : Nat} {b : Brt} {l : Lit} (h : MemoOk bs D) (hb : bs[k]? = some b) (hl : keyOf Tryz.prog 185 (.agg #[.string t, .int .i64 ((k : Nat) : Int)]) = some l) : MemoOk bs (D.put l (.lit (.bool (asksI t b.marks b.zone)))) := by
 refine ⟨IsMap.put h.1 _ _, fun t' k' b' l' hb' hl' hh => ?_⟩
 by_cases e : l' = l
 ·subst e
  have h1 := law_q.inj hl hl'
  simp at h1
  obtain ⟨rfl, h2⟩ := h1
  have h3 : k' = k := by omega
  subst h3
  rw [hb] at hb'
  cases hb'
  exact atKey_put_same h.1 (law_q.key hl) _ _
 ·rw [has_put_other e] at hh
  rw [atKey_put_other e]
  exact h.2 t' k' b' l' hb' hl' hh
theorem zero_ans (w : World) : (zeroValue 187).run Tryz.prog w = .ok (.agg #[.bool false]) w := by kernel_rfl
theorem But.cell {p B : Nat} {w w' : World} (h : But p B w w') {a : Addr} (h1 : a.block < B) (h2 : a.block ≠ p) : w'.cell? a = w.cell? a := World.cell?_of_block (w := w) (h.block a.block h1 h2)
theorem But.owns {H : Type} {P : Program} {k : TypeId} {R : Value → Option (DataW H × List MemPlace)} {m n : Nat} {D : DataW H} {p B : Nat} {w w' : World} (hb : But p B w w') (h : w.ownsMap P k R m n D) (h1 : m < B) (h2 : m ≠ p) : w'.ownsMap P k R m n D := by
 obtain ⟨es, clock, q1, q2, q3, q4⟩ := h
 exact ⟨es, clock, (hb.block m h1 h2).trans q1, q2, q3, q4⟩
def MemoAt (m4 n : Nat) (bs : List Brt) (w : World) : Prop := ∃ (n' : Nat) (D' : DataW Unit), n' ≤ n ∧ w.ownsMap Tryz.prog 185 ansElem m4 n' D' ∧ MemoOk bs D'
theorem MemoAt.lt {m4 n : Nat} {bs : List Brt} {w : World} (h : MemoAt m4 n bs w) : m4 < w.heap.size := by
 obtain ⟨_, _, _, o, _⟩ := h
 exact o.lt
theorem MemoAt.below {m4 n B : Nat} {bs : List Brt} {w w' : World} (h : MemoAt m4 n bs w) (hb : Below B w w') (hB : m4 < B) : MemoAt m4 n bs w' := by
 obtain ⟨n', D', h1, o, h2⟩ := h
 obtain ⟨es, clock, q1, q2, q3, q4⟩ := o
 exact ⟨n', D', h1, ⟨es, clock, (hb.block m4 hB).trans q1, q2, q3, q4⟩, h2⟩
theorem MemoAt.drew {m4 n : Nat} {bs : List Brt} {w : World} (h : MemoAt m4 n bs w) : MemoAt m4 n bs w.drew := h
theorem MemoAt.mono {m4 n n' : Nat} {bs : List Brt} {w : World} (h : MemoAt m4 n bs w) (hn : n ≤ n') : MemoAt m4 n' bs w := by
 obtain ⟨k, D', h1, h2⟩ := h
 exact ⟨k, D', Nat.le_trans h1 hn, h2⟩
theorem ownsMap_empty {H : Type} {P : Program} {k : TypeId} {R : Value → Option (DataW H × List MemPlace)} {m : Nat} {w : World} (h : w.heap[m]? = some (Obj.map #[] 0)) : w.ownsMap P k R m 0 (.map []) :=
 ⟨#[], 0, h, ⟨by simp, Go.MapKept.stamped_empty 0, by simp⟩, Nat.le_refl _, rfl⟩
def FoundM (p m1 m2 m3 m4 n : Nat) (x : Flt) (a1 : Option Addr) (c1 : Nat) (a2 : Option Addr) (c2 : Nat) (a3 : Option Addr) (c3 : Nat) (w : World) : Prop :=
 w.rangeAt p 0 [.bool x.pack, .slice a1 x.berths.length c1, .slice a2 x.services.length c2, .slice a3 x.copies.length c3, .map (some m1), .map (some m2), .map (some m3), .map (some m4)] ∧ p < w.heap.size ∧ w.ownsMap Tryz.prog 9 (plainElem Tryz.prog 3) m1 x.berths.length (placesTo (x.berths.map (·.name)) x.berths.length) ∧ w.ownsMap Tryz.prog 9 (plainElem Tryz.prog 3) m2 x.services.length (placesTo (x.services.map (·.name)) x.services.length) ∧ w.ownsMap Tryz.prog 9 (plainElem Tryz.prog 3) m3 x.copies.length (placesTo (x.copies.map (·.name)) x.copies.length) ∧ MemoAt m4 n x.berths w ∧ p ≠ m4 ∧ (x.berths ≠ [] → m1 ≠ m4) ∧ (x.services ≠ [] → m2 ≠ m4) ∧ (x.copies ≠ [] → m3 ≠ m4)
theorem places_apart {names : List ByteArray} {m1 m4 : Nat} {w : World} (h1 : w.ownsMap Tryz.prog 9 (plainElem Tryz.prog 3) m1 names.length (placesTo names names.length)) (h4 : w.heap[m4]? = some (Obj.map #[] 0)) (hne : names ≠ []) : m1 ≠ m4 := by
 rintro rfl
 cases names with
 | nil => exact hne rfl
 | cons nm rest =>
  have hh := has_places (nm :: rest) nm (nm :: rest).length
  obtain ⟨es, clock, e1, _, _, e4⟩ := h1
  rw [h4] at e1
  cases e1
  rw [e4] at hh
  cases hl : lastOf (nm :: rest) nm (nm :: rest).length with
  | none => exact (lastOf_none (nm :: rest) nm (nm :: rest).length).1 hl 0 (by simp) rfl
  | some j =>
   rw [hl] at hh
   have h2 : false = true := hh
   cases h2
theorem FoundM.of {p m1 m2 m3 m4 : Nat} {x : Flt} {a1 : Option Addr} {c1 : Nat} {a2 : Option Addr} {c2 : Nat} {a3 : Option Addr} {c3 : Nat} {w : World} (h : Found p m1 m2 m3 m4 x a1 c1 a2 c2 a3 c3 w) : FoundM p m1 m2 m3 m4 0 x a1 c1 a2 c2 a3 c3 w := by
 obtain ⟨h1, h2, h3, h4, h5, h6⟩ := h
 refine ⟨h1, h2, h3, h4, h5, ⟨0, _, Nat.le_refl _, ownsMap_empty h6, MemoOk.nil _⟩, ?_, fun e => ?_, fun e => ?_, fun e => ?_⟩
 ·rintro rfl
  have q := h1 7 _ rfl
  simp [World.cell?, h6] at q
 ·exact places_apart (names := x.berths.map (·.name)) (by simpa using h3) h6 (by simpa using e)
 ·exact places_apart (names := x.services.map (·.name)) (by simpa using h4) h6 (by simpa using e)
 ·exact places_apart (names := x.copies.map (·.name)) (by simpa using h5) h6 (by simpa using e)
theorem FoundM.memo {p m1 m2 m3 m4 n : Nat} {x : Flt} {a1 : Option Addr} {c1 : Nat} {a2 : Option Addr} {c2 : Nat} {a3 : Option Addr} {c3 : Nat} {w : World} (h : FoundM p m1 m2 m3 m4 n x a1 c1 a2 c2 a3 c3 w) : MemoAt m4 n x.berths w := h.2.2.2.2.2.1
theorem FoundM.below {p m1 m2 m3 m4 n : Nat} {x : Flt} {a1 : Option Addr} {c1 : Nat} {a2 : Option Addr} {c2 : Nat} {a3 : Option Addr} {c3 : Nat} {w w' : World} (h : FoundM p m1 m2 m3 m4 n x a1 c1 a2 c2 a3 c3 w) (hb : Below w.heap.size w w') : FoundM p m1 m2 m3 m4 n x a1 c1 a2 c2 a3 c3 w' :=
 ⟨range_belowV h.1 hb h.2.1, Nat.lt_of_lt_of_le h.2.1 hb.size, ownsMap_below h.2.2.1 hb h.2.2.1.lt, ownsMap_below h.2.2.2.1 hb h.2.2.2.1.lt, ownsMap_below h.2.2.2.2.1 hb h.2.2.2.2.1.lt, h.memo.below hb h.memo.lt, h.2.2.2.2.2.2⟩
theorem FoundM.but {p m1 m2 m3 m4 n n' : Nat} {x : Flt} {a1 : Option Addr} {c1 : Nat} {a2 : Option Addr} {c2 : Nat} {a3 : Option Addr} {c3 : Nat} {w w' : World} (h : FoundM p m1 m2 m3 m4 n x a1 c1 a2 c2 a3 c3 w) (hb : But m4 w.heap.size w w') (hm : MemoAt m4 n' x.berths w') (e1 : x.berths ≠ []) (e2 : x.services ≠ []) (e3 : x.copies ≠ []) : FoundM p m1 m2 m3 m4 n' x a1 c1 a2 c2 a3 c3 w' := by
 obtain ⟨h1, h2, h3, h4, h5, h6, h7, h8, h9, h10⟩ := h
 refine ⟨fun j v hj => (hb.cell (a := ⟨p, 0 + j, none⟩) h2 h7).trans (h1 j v hj), Nat.lt_of_lt_of_le h2 hb.size, hb.owns h3 h3.lt (h8 e1), hb.owns h4 h4.lt (h9 e2), hb.owns h5 h5.lt (h10 e3), hm, h7, h8, h9, h10⟩
abbrev spotA (p ci bi : Nat) (y : Cpy) (a7 : Option Addr) (c7 : Nat) (b : Brt) (am : Option Addr) (cm : Nat) (u1 u2 u3 : Int) : Array Value := #[.pointer (some ⟨p, 0, none⟩), .int .i64 ci, .string y.name, .string y.service, .int .i64 y.rank, .int .i64 y.born, .int .i64 y.room, .int .i64 y.hold, .string y.select, .slice a7 y.likes.length c7, .int .i64 y.apart, .string y.near, .string y.fixed, .string y.at_, .int .i64 bi, .string b.name, .string b.zone, .slice am b.marks.length cm, .int .i64 b.room, .int .i64 b.hold, .bool b.closed, .int .i64 u1, .int .i64 u2, .int .i64 u3]
theorem look_ans {m n : Nat} {D : DataW Unit} {w : World} {t : ByteArray} {k : Nat} {l : Lit} (h : w.ownsMap Tryz.prog 185 ansElem m n D) (hk : keyOf Tryz.prog 185 (.agg #[.string t, .int .i64 ((k : Nat) : Int)]) = some l) :
  ∃ B, (Instr.lookup 54 (.map (some m)) (.agg #[.string t, .int .i64 ((k : Nat) : Int)]) true).run Tryz.prog w = .ok (.tuple #[.agg #[.bool B], .bool (has D l)]) w ∧ D.atKey l (.lit (.bool false)) = .lit (.bool B) := by
 obtain ⟨v, ps, hrun, hv⟩ := h.look_ok law_q Tryz.underlying54 (zero_ans w) (ansElem_mk false) hk
 obtain ⟨B, rfl, e⟩ := ansElem_inv hv
 refine ⟨B, hrun, ?_⟩
 have := congrArg Prod.fst e
 simpa using this
set_option maxHeartbeats 2000000 in
theorem asf_any (p m4 ci bi n : Nat) (y : Cpy) (a7 : Option Addr) (c7 : Nat) (b : Brt) (am : Option Addr) (cm : Nat) (u1 u2 u3 : Int) (bs : List Brt) (D : DataW Unit) (t : ByteArray) (lo : Nat) (w : World) (p7 : w.cell? ⟨p, 7, none⟩ = some (.map (some m4))) (o4 : w.ownsMap Tryz.prog 185 ansElem m4 n D) (hm : MemoOk bs D) (hb : bs[bi]? = some b) (hbi : bi ≤ 1048576) (hn : n < 1048576) (nm : SliceC StrC 1 lo w am b.marks) (hml : b.marks.length ≤ 1000) (hz : b.zone.size ≤ 1000) (ht : t.size ≤ maxLen) :
  Calls Tryz.prog 103 #[.agg (spotA p ci bi y a7 c7 b am cm u1 u2 u3), .string t] w fun e w' => e = .returned (.bool (asksI t b.marks b.zone)) ∧ ∃ D', w'.ownsMap Tryz.prog 185 ansElem m4 (n + 1) D' ∧ MemoOk bs D' ∧ But m4 w.heap.size w w' := by
 have O4 := iH o4
 have HM := iH hm
 have HB := iH hb
 have NM := iH nm
 have hpl : p < w.heap.size := block_lt_of_cell p7
 have hm4 : m4 < w.heap.size := o4.lt
 have P7 := iH p7
 obtain ⟨l, hl⟩ := keyQ t bi ht hbi
 have HL := iH hl
 have HT := iH ht
 clear o4 hm hb nm p7 hl ht
 go_enter Tryz.func103, Tryz.ntmps103
 go_upto_region 2 with fail
 have hb0 : Below w.heap.size w ((w.alloc (Obj.cells (spotA p ci bi y a7 c7 b am cm u1 u2 u3) 131)).alloc (Obj.cells #[.string t, .int .i64 ((bi : Nat) : Int)] 185)) := by go_grown
 have hS : ((w.alloc (Obj.cells (spotA p ci bi y a7 c7 b am cm u1 u2 u3) 131)).alloc (Obj.cells #[.string t, .int .i64 ((bi : Nat) : Int)] 185)).heap.size = w.heap.size + 1 + 1 := by simp
 have s0 : ((w.alloc (Obj.cells (spotA p ci bi y a7 c7 b am cm u1 u2 u3) 131)).alloc (Obj.cells #[.string t, .int .i64 ((bi : Nat) : Int)] 185)).cell? ⟨w.heap.size, 0, none⟩ = some (.pointer (some ⟨p, 0, none⟩)) := by simp
 have s15 : ((w.alloc (Obj.cells (spotA p ci bi y a7 c7 b am cm u1 u2 u3) 131)).alloc (Obj.cells #[.string t, .int .i64 ((bi : Nat) : Int)] 185)).rangeAt w.heap.size 15 [.string b.name, .string b.zone, .slice am b.marks.length cm, .int .i64 b.room, .int .i64 b.hold, .bool b.closed] := range_cons (by simp) (range_cons (by simp) (range_cons (by simp) (range_cons (by simp) (range_cons (by simp) (range_cons (by simp) (range_nil _ _ _))))))
 have k0 : ((w.alloc (Obj.cells (spotA p ci bi y a7 c7 b am cm u1 u2 u3) 131)).alloc (Obj.cells #[.string t, .int .i64 ((bi : Nat) : Int)] 185)).cell? ⟨w.heap.size + 1, 0, none⟩ = some (.string t) := by simp
 have k1 : ((w.alloc (Obj.cells (spotA p ci bi y a7 c7 b am cm u1 u2 u3) 131)).alloc (Obj.cells #[.string t, .int .i64 ((bi : Nat) : Int)] 185)).cell? ⟨w.heap.size + 1, 1, none⟩ = some (.int .i64 ((bi : Nat) : Int)) := by simp
 generalize (w.alloc (Obj.cells (spotA p ci bi y a7 c7 b am cm u1 u2 u3) 131)).alloc (Obj.cells #[.string t, .int .i64 ((bi : Nat) : Int)] 185) = w1 at *
 have HB0 := iH hb0
 have HS15 := iH s15
 have P7' : w1.cell? ⟨p, 7, none⟩ = some (.map (some m4)) := (hb0.cell (p := ⟨p, 7, none⟩) hpl).trans P7.out
 have OA := iH (ownsMap_below O4.out hb0 hm4)
 have OX := iH (ownsMap_below OA.out ((Below.refl w1.heap.size w1).alloc nL (Obj.cells #[.bool false] 187)) OA.out.lt)
 have hba : ∀ {b' o' : Nat} {v' : Value}, w1.cell? ⟨b', o', none⟩ = some v' → (w1.alloc (Obj.cells #[.bool false] 187)).cell? ⟨b', o', none⟩ = some v' := fun h => (((Below.refl w1.heap.size w1).alloc nL _).cell (p := ⟨_, _, none⟩) (block_lt_of_cell h)).trans h
 have s0a := hba s0
 have k0a := hba k0
 have k1a := hba k1
 have P7a := hba P7'
 obtain ⟨BB, yl, hBB⟩ := look_ans OX.out.drew HL.out
 obtain ⟨B0, yl0, hB0⟩ := look_ans OA.out.drew HL.out
 have hBe : B0 = BB := by
  have := hB0.symm.trans hBB
  injection this with this
  injection this
 subst hBe
 have HBB := iH hBB
 have HSZ := iH hS
 clear hb0 s15 hBB hS hB0 hba
 cases hh : has D l with
 | true =>
  have HE : Hid (B0 = asksI t b.marks b.zone) := by
   have h1 := HM.out.2 t bi b l HB.out HL.out hh
   rw [HBB.out] at h1
   injection h1 with h1
   injection h1
  rw [hh] at yl yl0
  go_region
  all_goals
   go_wp2_with fail
   go_ret
   have hb2 : Below w.heap.size w (w1.alloc (Obj.cells #[.bool B0] 187)).drew := (HB0.out.alloc HB0.out.size _).drew
   exact ⟨ret_bool HE.out, D, (ownsMap_below O4.out hb2 hm4).mono (Nat.le_succ _), HM.out, But.of_below hb2⟩
 | false =>
  rw [hh] at yl yl0
  go_region
  all_goals
   have hb2 : Below w1.heap.size w1 (w1.alloc (Obj.cells #[.bool B0] 187)).drew := ((Below.refl _ w1).alloc nL _).drew
   have a0 : (w1.alloc (Obj.cells #[.bool B0] 187)).drew.cell? ⟨w1.heap.size, 0, none⟩ = some (.bool B0) := by simp
   have fa : (w1.alloc (Obj.cells #[.bool B0] 187)).drew.frozen? ⟨w1.heap.size, 0, none⟩ = false := by simp
   have hsz : w1.heap.size < (w1.alloc (Obj.cells #[.bool B0] 187)).drew.heap.size := by simp
   generalize (w1.alloc (Obj.cells #[.bool B0] 187)).drew = w2 at *
   have HB2 : Hid (Below w.heap.size w w2) := HB0.out.trans (hb2.mono HB0.out.size)
   have HR2 : Hid (w2.rangeAt w.heap.size 15 [.string b.name, .string b.zone, .slice am b.marks.length cm, .int .i64 b.room, .int .i64 b.hold, .bool b.closed]) := range_belowV HS15.out hb2 (by have := HSZ.out; omega)
   have S0 := iH ((hb2.cell (p := ⟨w.heap.size, 0, none⟩) (block_lt_of_cell s0)).trans s0)
   have K0 := iH ((hb2.cell (p := ⟨w.heap.size + 1, 0, none⟩) (block_lt_of_cell k0)).trans k0)
   have K1 := iH ((hb2.cell (p := ⟨w.heap.size + 1, 1, none⟩) (block_lt_of_cell k1)).trans k1)
   clear yl yl0 s0a k0a k1a P7a s0 k0 k1 hb2
   go_wp2_with (first | (refine wpList_load_mid rfl 61 _ rfl w.heap.size 15 (by first | rfl | (simp [go_sem]; done)) [.string b.name, .string b.zone, .slice am b.marks.length cm, .int .i64 b.room, .int .i64 b.hold, .bool b.closed] _ HR2.out Tryz.underlying61 rfl isz_Brt ?_))
   refine (asks_any t b.name b.zone b.marks am cm lo b.room b.hold b.closed _ (NM.out.below StrC.holds HB2.out nL) hml hz HT.out).mono ?_
   rintro e w3 ⟨rfl, hb3⟩
   generalize hA : asksI t b.marks b.zone = A
   have HA := iH hA
   have a3 : w3.cell? ⟨w1.heap.size, 0, none⟩ = some (.bool B0) := (hb3.cell (p := ⟨w1.heap.size, 0, none⟩) hsz).trans a0
   have f3 : w3.frozen? ⟨w1.heap.size, 0, none⟩ = false := (hb3.frozen (p := ⟨w1.heap.size, 0, none⟩) hsz).trans fa
   have hb4 : Below w.heap.size w (w3.setCell ⟨w1.heap.size, 0, none⟩ (.bool A)) := (HB2.out.trans (hb3.mono HB2.out.size)).setCell HB0.out.size _
   have hne : ∀ {b' o' : Nat} {v' : Value}, w2.cell? ⟨b', o', none⟩ = some v' → b' ≠ w1.heap.size → (w3.setCell ⟨w1.heap.size, 0, none⟩ (.bool A)).cell? ⟨b', o', none⟩ = some v' := fun h hn => (World.cell?_of_block (w := w3) (a := ⟨_, _, none⟩) (Below.heap_setCell w3 _ _ _ hn)).trans ((hb3.cell (p := ⟨_, _, none⟩) (block_lt_of_cell h)).trans h)
   have s0 := hne S0.out (by have := HSZ.out; omega)
   have k0 := hne K0.out (by have := HSZ.out; omega)
   have k1 := hne K1.out (by have := HSZ.out; omega)
   have a4 : (w3.setCell ⟨w1.heap.size, 0, none⟩ (.bool A)).cell? ⟨w1.heap.size, 0, none⟩ = some (.bool A) := World.cell?_setCell_same' _ _ _ (by rw [a3]; rfl)
   have p7 : (w3.setCell ⟨w1.heap.size, 0, none⟩ (.bool A)).cell? ⟨p, 7, none⟩ = some (.map (some m4)) := (hb4.cell (p := ⟨p, 7, none⟩) hpl).trans P7.out
   obtain ⟨w5, yu, ho5, hg5⟩ := (ownsMap_below O4.out hb4 hm4).drew.update law_q Tryz.underlying54 (by unfold maxLen; omega) HL.out (ansElem_mk A)
   have HO5 := iH ho5
   have HG5 := iH hg5
   have HB4 := iH hb4
   have HA5 := iH ((hg5.cell (a := ⟨w1.heap.size, 0, none⟩) (show (w3.setCell ⟨w1.heap.size, 0, none⟩ (.bool A)).drew.cell? ⟨w1.heap.size, 0, none⟩ = some (.bool A) by simpa using a4) (by simp; have := HSZ.out; omega)))
   clear ho5 hg5 hb4 hne hb3
   go_wp2_with fail
   go_region
   all_goals
    have a5 : w5.cell? ⟨w1.heap.size, 0, none⟩ = some (.bool A) := HA5.out
    go_wp2_with fail
    go_ret
    subst hA
    refine ⟨rfl, _, HO5.out, HM.out.put HB.out HL.out, ?_⟩
    have hbt : But m4 w.heap.size w (w3.setCell ⟨w1.heap.size, 0, none⟩ (.bool (asksI t b.marks b.zone))).drew := But.of_below HB4.out.drew
    exact hbt.trans ⟨HG5.out.os, HG5.out.tape, HG5.out.output, HG5.out.size, fun k hk hne => HG5.out.block k (Nat.lt_of_lt_of_le hk hbt.size) (fun e => hne (Option.some.inj e))⟩
end Go.Proofs.YtebfdgfhadpieaaGreat
