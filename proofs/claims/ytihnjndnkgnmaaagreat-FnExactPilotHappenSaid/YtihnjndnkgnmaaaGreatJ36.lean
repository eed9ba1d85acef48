import Derived.Test.YtihnjndnkgnmaaaGreatTk0
import Derived.Test.YtihnjndnkgnmaaaGreatJ35
import Derived.Test.YtihnjndnkgnmaaaGreatJ29
namespace Go.Proofs.YtihnjndnkgnmaaaGreat
open Go.RowKit

theorem results_ctV {P : Program} {fn : Func} {p t : Tmp} {ty : TypeId} (h : fn.results = #[.cell p ty, .tmp t]) (tmps : Array Value) (w : World) (g : Nat) (cs : List Value) (d : TypeDesc)
  (hp : tmps.getD p undef = .pointer (some ⟨g, 0, none⟩)) (hc : w.rangeAt g 0 cs) (hu : P.underlying ty = some d) (hd : d.isRow = true) (hi : (P.info? ty).map (·.size) = some cs.length) :
  (results fn tmps).run P w = .ok (.tuple #[.agg cs.toArray, tmps.getD t undef]) w := by
 have hp' : tmps[p]?.getD undef = .pointer (some ⟨g, 0, none⟩) := by simpa using hp
 simp [results, h, hp', asAddr, run_loadVar_mid w g 0 ty cs d hc hu hd hi]

structure EvW (x : Flt) (v : Evt) (am : Option Addr) (cm : Nat) (al : Option Addr) (cl gx eb rb : Nat) (vb vs vc : Value) (w w4 wn : World) : Prop where
 hx : Blk gx #[.bool x.pack, vb, vs, vc] 41 wn
 he : Blk eb #[.int .i64 v.kind, .string v.berth.name, .string v.berth.zone, .slice am v.berth.marks.length cm, .int .i64 v.berth.room, .int .i64 v.berth.hold, .bool v.berth.closed, .string v.copy.name, .string v.copy.service, .int .i64 v.copy.rank, .int .i64 v.copy.born, .int .i64 v.copy.room, .int .i64 v.copy.hold, .string v.copy.select, .slice al v.copy.likes.length cl, .int .i64 v.copy.apart, .string v.copy.near, .string v.copy.fixed, .string v.copy.at_, .string v.name, .string v.at_] 50 wn
 hr : Blk rb #[.bool false, .slice none 0 0, .slice none 0 0, .slice none 0 0] 41 wn
 hb : Below w.heap.size w wn
 h4 : Below gx w4 wn
 i1 : w.heap.size ≤ eb
 i2 : eb < rb
 i3 : rb < gx
 i4 : gx ≤ w4.heap.size
section
variable {x : Flt} {v : Evt} {am : Option Addr} {cm : Nat} {al : Option Addr} {cl gx eb rb : Nat} {vb vs vc : Value} {w w4 wn wm : World}
theorem EvW.below (h : EvW x v am cm al cl gx eb rb vb vs vc w w4 wn) (hb : Below wn.heap.size wn wm) : EvW x v am cm al cl gx eb rb vb vs vc w w4 wm :=
 ⟨h.hx.below hb h.hx.lt, h.he.below hb h.he.lt, h.hr.below hb h.hr.lt, h.hb.trans (hb.mono h.hb.size), h.h4.trans (hb.mono (Nat.le_of_lt h.hx.lt)), h.i1, h.i2, h.i3, h.i4⟩
theorem EvW.drew (h : EvW x v am cm al cl gx eb rb vb vs vc w w4 wn) : EvW x v am cm al cl gx eb rb vb vs vc w w4 wn.drew := h.below (Below.refl _ _).drew
theorem EvW.grown {row : Option Nat} (h : EvW x v am cm al cl gx eb rb vb vs vc w w4 wn) (hg : wn.grownBy wm row) (hr : ∀ r, row = some r → gx < r) : EvW x v am cm al cl gx eb rb vb vs vc w w4 wm := by
 have far : ∀ b, b ≤ gx → some b ≠ row := fun b hb e => by have := hr b e.symm; omega
 have k1 := h.i1
 have k2 := h.i2
 have k3 := h.i3
 exact ⟨h.hx.grown hg (far _ nL), h.he.grown hg (far _ (by omega)), h.hr.grown hg (far _ (by omega)), h.hb.grown hg h.hb.size (fun r e => by have := hr r e; omega), h.h4.grown hg (Nat.le_of_lt h.hx.lt) (fun r e => Nat.le_of_lt (hr r e)), h.i1, h.i2, h.i3, h.i4⟩
theorem EvW.set1 (h : EvW x v am cm al cl gx eb rb vb vs vc w w4 wn) (u : Value) : EvW x v am cm al cl gx eb rb u vs vc w w4 (wn.setCell ⟨gx, 1, none⟩ u) := by
 have k1 := h.i1
 have k2 := h.i2
 have k3 := h.i3
 exact ⟨h.hx.set 1 u, h.he.other (a := ⟨gx, 1, none⟩) (show eb ≠ gx by omega) _, h.hr.other (a := ⟨gx, 1, none⟩) (show rb ≠ gx by omega) _, h.hb.setCell (p := ⟨gx, 1, none⟩) (show w.heap.size ≤ gx by omega) _, h.h4.setCell (p := ⟨gx, 1, none⟩) nL _, h.i1, h.i2, h.i3, h.i4⟩
theorem EvW.set3 (h : EvW x v am cm al cl gx eb rb vb vs vc w w4 wn) (u : Value) : EvW x v am cm al cl gx eb rb vb vs u w w4 (wn.setCell ⟨gx, 3, none⟩ u) := by
 have k1 := h.i1
 have k2 := h.i2
 have k3 := h.i3
 exact ⟨h.hx.set 3 u, h.he.other (a := ⟨gx, 3, none⟩) (show eb ≠ gx by omega) _, h.hr.other (a := ⟨gx, 3, none⟩) (show rb ≠ gx by omega) _, h.hb.setCell (p := ⟨gx, 3, none⟩) (show w.heap.size ≤ gx by omega) _, h.h4.setCell (p := ⟨gx, 3, none⟩) nL _, h.i1, h.i2, h.i3, h.i4⟩
end

theorem wp_append_oD {P : Program} {op : Oper} {a : Act} {w : World} {K : Act → World → Prop} {Q : Exit → Act → World → Prop} (s x : Operand) (t : TypeId)
  (ho : op.op = .call { callee := .builtin .append, args := #[s, x], argTypes := #[t, t] })
  (base : Nat) (e : TypeId) (i : TypeInfo) (z : Value) (size bytes : Nat) (ht : P.underlying t = some (.slice e)) (hi : P.info? e = some i) (hz : i.zero = some z)
  (hsize : i.size = size) (hby : i.bytes = bytes) (hzs : z.cells.size = size) (hsz : 0 < size)
  (v : Value) (n : Nat) (xs : List Value) (hs : a.eval s = v) (hown : w.ownsRow base e size v n xs)
  (ao : Option Addr) (m c : Nat) (news : List Value) (hx : a.eval x = .slice ao m c) (hno : ao = none → m = 0) (hl : news.length = m * size) (hnews : ∀ ad, ao = some ad → ∀ j u, news[j]? = some u → w.cell? (ad.add j) = some u) (h1 : ∀ u ∈ news, u.oneCell' = true)
  (h63 : n + m ≤ maxLen) (hbytes : (n + m) * bytes ≤ 140737488355328) (hbase : base ≤ w.heap.size)
  (h : ∀ v' w', w'.ownsRow base e size v' (n + m) (xs ++ news) → w.grownBy w' v.ownBlock → (v' = .slice none 0 0 ↔ v = .slice none 0 0 ∧ m = 0) → (v'.ownBlock = v.ownBlock ∨ v'.ownBlock = some w.heap.size) → K (a.put op.dst v') w') : op.wp P a w K Q := by
 cases ao with
 | some ad => exact wp_append_atD s x t ho base e i z size bytes ht hi hz hsize hby hzs hsz v n xs hs hown ad m c news hx hl (hnews ad rfl) h1 h63 hbytes hbase h
 | none =>
  obtain rfl := hno rfl
  have hn : news = [] := List.length_eq_zero_iff.1 (by omega)
  subst hn
  have hrun := run_append_noneD (P := P) (w := w) base t op.type e i size c ht hi v n xs hown
  unfold Oper.wp
  simp [execOp, ho, resolve, invoke, builtin, hs, hx, hrun, Result.andThen]
  exact h v w (by simpa using hown) ⟨rfl, rfl, rfl, Nat.le_refl _, fun _ _ _ => rfl⟩ (by simp) (.inl rfl)

structure EvK (x : Flt) (v : Evt) (am : Option Addr) (cm : Nat) (al : Option Addr) (cl gx eb rb bs H g2 : Nat) (vb vs vc : Value) (w wB wn : World) : Prop where
 hx : Blk gx #[.bool x.pack, vb, vs, vc] 41 wn
 he : Blk eb #[.int .i64 v.kind, .string v.berth.name, .string v.berth.zone, .slice am v.berth.marks.length cm, .int .i64 v.berth.room, .int .i64 v.berth.hold, .bool v.berth.closed, .string v.copy.name, .string v.copy.service, .int .i64 v.copy.rank, .int .i64 v.copy.born, .int .i64 v.copy.room, .int .i64 v.copy.hold, .string v.copy.select, .slice al v.copy.likes.length cl, .int .i64 v.copy.apart, .string v.copy.near, .string v.copy.fixed, .string v.copy.at_, .string v.name, .string v.at_] 50 wn
 hr : Blk rb #[.bool false, .slice none 0 0, .slice none 0 0, .slice none 0 0] 41 wn
 hb : Below w.heap.size w wn
 kb : Keeps H wB wn
 sv : SliceC SvcC 2 w.heap.size wn (some ⟨g2, 0, none⟩) x.services
 i1 : w.heap.size ≤ eb
 i2 : eb < rb
 i3 : rb < bs
 i5 : wB.heap.size ≤ bs
 i6 : g2 < bs
section
variable {x : Flt} {v : Evt} {am : Option Addr} {cm : Nat} {al : Option Addr} {cl gx eb rb bs H g2 : Nat} {vb vs vc : Value} {w wB wn wm : World}
theorem EvK.below (h : EvK x v am cm al cl gx eb rb bs H g2 vb vs vc w wB wn) (hb : Below wn.heap.size wn wm) : EvK x v am cm al cl gx eb rb bs H g2 vb vs vc w wB wm :=
 ⟨h.hx.below hb h.hx.lt, h.he.below hb h.he.lt, h.hr.below hb h.hr.lt, h.hb.trans (hb.mono h.hb.size), h.kb.trans (Keeps.of_below hb nL _), h.sv.below SvcC.holds hb nL, h.i1, h.i2, h.i3, h.i5, h.i6⟩
theorem EvK.store (h : EvK x v am cm al cl gx eb rb bs H g2 vb vs vc w wB wn) {g : Nat} (h1 : bs ≤ g) (h2 : g < gx) (i : Nat) (u : Value) : EvK x v am cm al cl gx eb rb bs H g2 vb vs vc w wB (wn.setCell ⟨g, i, none⟩ u) := by
 have k1 := h.i1
 have k2 := h.i2
 have k3 := h.i3
 have k5 := h.i5
 have k6 := h.i6
 exact ⟨h.hx.other (a := ⟨g, i, none⟩) (show gx ≠ g by omega) _, h.he.other (a := ⟨g, i, none⟩) (show eb ≠ g by omega) _, h.hr.other (a := ⟨g, i, none⟩) (show rb ≠ g by omega) _, h.hb.setCell (p := ⟨g, i, none⟩) (show w.heap.size ≤ g by omega) _, h.kb.grownD (grownBy_cell _ _ _) (fun r e => by cases e; exact .inl (show wB.heap.size ≤ g by omega)), slice_grown SvcC.flat h.sv (grownBy_cell _ _ _) (fun b o e _ e2 => by cases e; have e3 : g2 = g := Option.some.inj e2; omega), h.i1, h.i2, h.i3, h.i5, h.i6⟩
end

def EvRes (x : Flt) (v : Evt) (w : World) (e : Ending) (w' : World) : Prop :=
 (evF x v = none ∧ ∃ u0 u1 u2 u3, e = .returned (.tuple #[.agg #[u0, u1, u2, u3], .bool false]) ∧ #[u0, u1, u2, u3].all (·.oneCell') = true ∧ Below w.heap.size w w') ∨ ∃ (y : Flt) (d1 : Option Addr) (q1 : Nat) (d2 : Option Addr) (q2 : Nat) (d3 : Option Addr) (q3 : Nat), evF x v = some y ∧ e = .returned (.tuple #[.agg #[.bool y.pack, .slice d1 y.berths.length q1, .slice d2 y.services.length q2, .slice d3 y.copies.length q3], .bool true]) ∧ SliceC BrtC 6 w.heap.size w' d1 y.berths ∧ SliceC SvcC 2 w.heap.size w' d2 y.services ∧ SliceC CpyC 12 w.heap.size w' d3 y.copies ∧ Below w.heap.size w w'

theorem OwnC_at {bs g q k : Nat} {w : World} {l : List Cpy} {c : Cpy} (h : OwnC bs w (.slice (some ⟨g, 0, none⟩) l.length q) l) (hk : l[k]? = some c) (s : ByteArray) : OwnC bs (w.setCell ⟨g, k * 12 + 11, none⟩ (.string s)) (.slice (some ⟨g, 0, none⟩) (l.set k { c with at_ := s }).length q) (l.set k { c with at_ := s }) := by
 obtain ⟨cs, h1, h2⟩ := h
 have hkl := lt_of_some hk
 have hcl : cs.length = l.length * 12 := h1.1
 have ho : (w.setCell ⟨g, k * 12 + 11, none⟩ (.string s)).ownsRow bs 48 12 (.slice (some ⟨g, 0, none⟩) l.length q) l.length (setRun cs (k * 12 + 11) [.string s]) := ownsRow_run [.string s] _ (k * 12 + 11) _ h1
 refine ⟨setRun cs (k * 12 + 11) [.string s], by rw [List.length_set]; exact ho, fun j y hj => ?_⟩
 by_cases e : j = k
 ·subst e
  rw [List.getElem?_set_self hkl] at hj
  cases hj
  obtain ⟨ae, ce, q1, q2, q3⟩ := h2 j c hk
  refine ⟨ae, ce, fun i u hu => ?_, slice_grown LikC.flat q2 (grownBy_cell _ _ _) (fun b o e hn e2 => (q3 b o e hn).1 e2), fun b o e hn => ⟨(q3 b o e hn).1, by have := (q3 b o e hn).2; simpa [World.setCell] using this⟩⟩
  have hi : i < 12 := by have := lt_of_some hu; rwa [vCp_len] at this
  by_cases e11 : i = 11
  ·subst e11
   have := setRun_in [.string s] cs (j * 12 + 11) 0 (by simp; omega) (by simp)
   rw [Nat.add_zero] at this
   rw [this]
   exact hu
  ·rw [setRun_out _ _ _ _ (by simp; omega)]
   refine q1 i u ?_
   rcases (by omega : i = 0 ∨ i = 1 ∨ i = 2 ∨ i = 3 ∨ i = 4 ∨ i = 5 ∨ i = 6 ∨ i = 7 ∨ i = 8 ∨ i = 9 ∨ i = 10) with rfl | rfl | rfl | rfl | rfl | rfl | rfl | rfl | rfl | rfl | rfl <;> exact hu
 ·rw [List.getElem?_set_ne (fun h => e h.symm)] at hj
  obtain ⟨ae, ce, q1, q2, q3⟩ := h2 j y hj
  refine ⟨ae, ce, fun i u hu => ?_, slice_grown LikC.flat q2 (grownBy_cell _ _ _) (fun b o e hn e2 => (q3 b o e hn).1 e2), fun b o e hn => ⟨(q3 b o e hn).1, by have := (q3 b o e hn).2; simpa [World.setCell] using this⟩⟩
  have hi : i < 12 := by have := lt_of_some hu; rwa [vCp_len] at this
  rw [setRun_out _ _ _ _ (by simp; omega)]
  exact q1 i u hu
theorem EAt.keep {α β : Type} {V : α → Value → List Value} {sub : α → List β} {C : Make β} {m n lo : Nat} {w w' : World} {ds : List Value} {l : List α} (hC : Holds C m) (h : EAt V sub C m n lo w ds l) (k : Keeps lo w w') : EAt V sub C m n lo w' ds l := by
 intro j x hj
 obtain ⟨ae, ce, q1, q2⟩ := h j x hj
 exact ⟨ae, ce, q1, q2.keep hC k nL⟩
theorem EAt.lower {α β : Type} {V : α → Value → List Value} {sub : α → List β} {C : Make β} {m n lo lo' : Nat} {w : World} {ds : List Value} {l : List α} (hC : Holds C m) (h : EAt V sub C m n lo w ds l) (k : lo' ≤ lo) : EAt V sub C m n lo' w ds l := by
 intro j x hj
 obtain ⟨ae, ce, q1, q2⟩ := h j x hj
 exact ⟨ae, ce, q1, q2.keep hC (Keeps.refl _ _) k⟩
theorem kept_rows {p base : Nat} {T : TypeId} {n : Nat} {vv : Value} {k o : Nat} {ds : List Value} {w : World} (h : w.ownsRow base T n vv k ds) (hp : p < base) (vs : List Value) : (w.setCells p o vs).ownsRow base T n vv k ds := by
 refine h.kept (grownBy_cells vs o w) ?_
 cases e : vv.ownBlock with
 | none => exact .inl rfl
 | some b =>
  refine .inr (fun e2 => ?_)
  have h9 := (h.lt b e).1
  have e3 : b = p := Option.some.inj e2
  omega
theorem Keeps.up {a b : Nat} {w w' : World} (h : Keeps a w w') (hab : a ≤ b) : Keeps b w w' := ⟨h.1, fun x o h1 h2 => h.2 x o (Nat.le_trans hab h1) h2⟩
theorem mov_set {l : List Cpy} {k : Nat} {c : Cpy} (h : l[k]? = some c) (s : ByteArray) : movL l k s = l.set k { c with at_ := s } := by
 unfold movL
 rw [h]
 exact (List.set_eq_take_append_cons_drop ..).trans (by rw [if_pos (lt_of_some h)]) |>.symm

end Go.Proofs.YtihnjndnkgnmaaaGreat

namespace Go.Proofs.YtihnjndnkgnmaaaGreat
open Go.RowKit

set_option maxHeartbeats 40000000 in
set_option maxRecDepth 100000 in
theorem event_k0 (x : Flt) (v : Evt) (a1 : Option Addr) (c1 b2 o2 c2 : Nat) (a3 : Option Addr) (c3 : Nat) (am : Option Addr) (cm : Nat) (al : Option Addr) (cl lo : Nat) (w : World) (n1 : SliceC BrtC 6 lo w a1 x.berths) (n2 : SliceC SvcC 2 lo w (some ⟨b2, o2, none⟩) x.services) (n3 : SliceC CpyC 12 lo w a3 x.copies) (nm : SliceC StrC 1 lo w am v.berth.marks) (nl : SliceC LikC 2 lo w al v.copy.likes) (hvx : validI x = true) (hlb : x.berths.length ≤ 12) (hls : x.services.length ≤ 30) (hlc : x.copies.length ≤ 60) (hmk : ∀ y ∈ x.berths, y.marks.length ≤ 1048576) (hlk : ∀ y ∈ x.copies, y.likes.length ≤ 1048576) (hvm : v.berth.marks.length ≤ 1048576) (hvl : v.copy.likes.length ≤ 1048576) (z1 : SzB [v.berth]) (z3 : SzC [v.copy]) (za : v.at_.size ≤ maxLen) (f1 : Hid (¬ v.kind = 1)) (f2 : Hid (¬ v.kind = 2)) (f3 : Hid (¬ v.kind = 3)) (f4 : Hid (¬ v.kind = 4)) (f5 : Hid (¬ v.kind = 5)) :
  Calls Tryz.prog 21 #[.agg #[.bool x.pack, .slice a1 x.berths.length c1, .slice (some ⟨b2, o2, none⟩) x.services.length c2, .slice a3 x.copies.length c3], .agg #[.int .i64 v.kind, .string v.berth.name, .string v.berth.zone, .slice am v.berth.marks.length cm, .int .i64 v.berth.room, .int .i64 v.berth.hold, .bool v.berth.closed, .string v.copy.name, .string v.copy.service, .int .i64 v.copy.rank, .int .i64 v.copy.born, .int .i64 v.copy.room, .int .i64 v.copy.hold, .string v.copy.select, .slice al v.copy.likes.length cl, .int .i64 v.copy.apart, .string v.copy.near, .string v.copy.fixed, .string v.copy.at_, .string v.name, .string v.at_]] w fun e w' => EvRes x v w e w' := by
 have HZB := iH (SzB.of n1)
 have HZC := iH (SzC.of n3)
 have HZ1 := iH z1
 have HZ3 := iH z3
 have HZA := iH za
 have N1 := iH n1
 have N2 := iH n2
 have N3 := iH n3
 have NM := iH nm
 have NL := iH nl
 have HV := iH hvx
 have HAB := iH (valid_more hvx).2.1
 have HAC := iH (valid_parts hvx).2.2.2.1
 have HMK := iH hmk
 have HLK := iH hlk
 clear n1 n2 n3 nm nl hvx hmk hlk z1 z3 za
 have h1 := Blk.alloc w #[.bool x.pack, .slice a1 x.berths.length c1, .slice (some ⟨b2, o2, none⟩) x.services.length c2, .slice a3 x.copies.length c3] 41
 have h2 : Blk (w.heap.size + 1) #[.int .i64 v.kind, .string v.berth.name, .string v.berth.zone, .slice am v.berth.marks.length cm, .int .i64 v.berth.room, .int .i64 v.berth.hold, .bool v.berth.closed, .string v.copy.name, .string v.copy.service, .int .i64 v.copy.rank, .int .i64 v.copy.born, .int .i64 v.copy.room, .int .i64 v.copy.hold, .string v.copy.select, .slice al v.copy.likes.length cl, .int .i64 v.copy.apart, .string v.copy.near, .string v.copy.fixed, .string v.copy.at_, .string v.name, .string v.at_] 50 ((w.alloc (Obj.cells #[.bool x.pack, .slice a1 x.berths.length c1, .slice (some ⟨b2, o2, none⟩) x.services.length c2, .slice a3 x.copies.length c3] 41)).alloc (Obj.cells #[.int .i64 v.kind, .string v.berth.name, .string v.berth.zone, .slice am v.berth.marks.length cm, .int .i64 v.berth.room, .int .i64 v.berth.hold, .bool v.berth.closed, .string v.copy.name, .string v.copy.service, .int .i64 v.copy.rank, .int .i64 v.copy.born, .int .i64 v.copy.room, .int .i64 v.copy.hold, .string v.copy.select, .slice al v.copy.likes.length cl, .int .i64 v.copy.apart, .string v.copy.near, .string v.copy.fixed, .string v.copy.at_, .string v.name, .string v.at_] 50)) := by
  have := Blk.alloc (w.alloc (Obj.cells #[.bool x.pack, .slice a1 x.berths.length c1, .slice (some ⟨b2, o2, none⟩) x.services.length c2, .slice a3 x.copies.length c3] 41)) #[.int .i64 v.kind, .string v.berth.name, .string v.berth.zone, .slice am v.berth.marks.length cm, .int .i64 v.berth.room, .int .i64 v.berth.hold, .bool v.berth.closed, .string v.copy.name, .string v.copy.service, .int .i64 v.copy.rank, .int .i64 v.copy.born, .int .i64 v.copy.room, .int .i64 v.copy.hold, .string v.copy.select, .slice al v.copy.likes.length cl, .int .i64 v.copy.apart, .string v.copy.near, .string v.copy.fixed, .string v.copy.at_, .string v.name, .string v.at_] 50
  simpa using this
 have HR3 : Hid (Blk (w.heap.size + 1 + 1) #[.bool false, .slice none 0 0, .slice none 0 0, .slice none 0 0] 41 (((w.alloc (Obj.cells #[.bool x.pack, .slice a1 x.berths.length c1, .slice (some ⟨b2, o2, none⟩) x.services.length c2, .slice a3 x.copies.length c3] 41)).alloc (Obj.cells #[.int .i64 v.kind, .string v.berth.name, .string v.berth.zone, .slice am v.berth.marks.length cm, .int .i64 v.berth.room, .int .i64 v.berth.hold, .bool v.berth.closed, .string v.copy.name, .string v.copy.service, .int .i64 v.copy.rank, .int .i64 v.copy.born, .int .i64 v.copy.room, .int .i64 v.copy.hold, .string v.copy.select, .slice al v.copy.likes.length cl, .int .i64 v.copy.apart, .string v.copy.near, .string v.copy.fixed, .string v.copy.at_, .string v.name, .string v.at_] 50)).alloc (Obj.cells #[.bool false, .slice none 0 0, .slice none 0 0, .slice none 0 0] 41))) := by
  have := Blk.alloc ((w.alloc (Obj.cells #[.bool x.pack, .slice a1 x.berths.length c1, .slice (some ⟨b2, o2, none⟩) x.services.length c2, .slice a3 x.copies.length c3] 41)).alloc (Obj.cells #[.int .i64 v.kind, .string v.berth.name, .string v.berth.zone, .slice am v.berth.marks.length cm, .int .i64 v.berth.room, .int .i64 v.berth.hold, .bool v.berth.closed, .string v.copy.name, .string v.copy.service, .int .i64 v.copy.rank, .int .i64 v.copy.born, .int .i64 v.copy.room, .int .i64 v.copy.hold, .string v.copy.select, .slice al v.copy.likes.length cl, .int .i64 v.copy.apart, .string v.copy.near, .string v.copy.fixed, .string v.copy.at_, .string v.name, .string v.at_] 50)) #[.bool false, .slice none 0 0, .slice none 0 0, .slice none 0 0] 41
  show Blk _ _ _ _
  simpa using this
 have HF3 : Hid (Blk w.heap.size #[.bool x.pack, .slice a1 x.berths.length c1, .slice (some ⟨b2, o2, none⟩) x.services.length c2, .slice a3 x.copies.length c3] 41 (((w.alloc (Obj.cells #[.bool x.pack, .slice a1 x.berths.length c1, .slice (some ⟨b2, o2, none⟩) x.services.length c2, .slice a3 x.copies.length c3] 41)).alloc (Obj.cells #[.int .i64 v.kind, .string v.berth.name, .string v.berth.zone, .slice am v.berth.marks.length cm, .int .i64 v.berth.room, .int .i64 v.berth.hold, .bool v.berth.closed, .string v.copy.name, .string v.copy.service, .int .i64 v.copy.rank, .int .i64 v.copy.born, .int .i64 v.copy.room, .int .i64 v.copy.hold, .string v.copy.select, .slice al v.copy.likes.length cl, .int .i64 v.copy.apart, .string v.copy.near, .string v.copy.fixed, .string v.copy.at_, .string v.name, .string v.at_] 50)).alloc (Obj.cells #[.bool false, .slice none 0 0, .slice none 0 0, .slice none 0 0] 41))) := (h1.below ((Below.refl _ _).alloc nL _) h1.lt).below ((Below.refl _ _).alloc nL _) (by simp; omega)
 have HE3 : Hid (Blk (w.heap.size + 1) #[.int .i64 v.kind, .string v.berth.name, .string v.berth.zone, .slice am v.berth.marks.length cm, .int .i64 v.berth.room, .int .i64 v.berth.hold, .bool v.berth.closed, .string v.copy.name, .string v.copy.service, .int .i64 v.copy.rank, .int .i64 v.copy.born, .int .i64 v.copy.room, .int .i64 v.copy.hold, .string v.copy.select, .slice al v.copy.likes.length cl, .int .i64 v.copy.apart, .string v.copy.near, .string v.copy.fixed, .string v.copy.at_, .string v.name, .string v.at_] 50 (((w.alloc (Obj.cells #[.bool x.pack, .slice a1 x.berths.length c1, .slice (some ⟨b2, o2, none⟩) x.services.length c2, .slice a3 x.copies.length c3] 41)).alloc (Obj.cells #[.int .i64 v.kind, .string v.berth.name, .string v.berth.zone, .slice am v.berth.marks.length cm, .int .i64 v.berth.room, .int .i64 v.berth.hold, .bool v.berth.closed, .string v.copy.name, .string v.copy.service, .int .i64 v.copy.rank, .int .i64 v.copy.born, .int .i64 v.copy.room, .int .i64 v.copy.hold, .string v.copy.select, .slice al v.copy.likes.length cl, .int .i64 v.copy.apart, .string v.copy.near, .string v.copy.fixed, .string v.copy.at_, .string v.name, .string v.at_] 50)).alloc (Obj.cells #[.bool false, .slice none 0 0, .slice none 0 0, .slice none 0 0] 41))) := h2.below ((Below.refl _ _).alloc nL _) h2.lt
 have hB3 : Below w.heap.size w (((w.alloc (Obj.cells #[.bool x.pack, .slice a1 x.berths.length c1, .slice (some ⟨b2, o2, none⟩) x.services.length c2, .slice a3 x.copies.length c3] 41)).alloc (Obj.cells #[.int .i64 v.kind, .string v.berth.name, .string v.berth.zone, .slice am v.berth.marks.length cm, .int .i64 v.berth.room, .int .i64 v.berth.hold, .bool v.berth.closed, .string v.copy.name, .string v.copy.service, .int .i64 v.copy.rank, .int .i64 v.copy.born, .int .i64 v.copy.room, .int .i64 v.copy.hold, .string v.copy.select, .slice al v.copy.likes.length cl, .int .i64 v.copy.apart, .string v.copy.near, .string v.copy.fixed, .string v.copy.at_, .string v.name, .string v.at_] 50)).alloc (Obj.cells #[.bool false, .slice none 0 0, .slice none 0 0, .slice none 0 0] 41)) := by go_grown
 clear h1 h2
 go_enter Tryz.func21, Tryz.ntmps21
 go_upto_region 1 with fail
 generalize (((w.alloc (Obj.cells #[.bool x.pack, .slice a1 x.berths.length c1, .slice (some ⟨b2, o2, none⟩) x.services.length c2, .slice a3 x.copies.length c3] 41)).alloc (Obj.cells #[.int .i64 v.kind, .string v.berth.name, .string v.berth.zone, .slice am v.berth.marks.length cm, .int .i64 v.berth.room, .int .i64 v.berth.hold, .bool v.berth.closed, .string v.copy.name, .string v.copy.service, .int .i64 v.copy.rank, .int .i64 v.copy.born, .int .i64 v.copy.room, .int .i64 v.copy.hold, .string v.copy.select, .slice al v.copy.likes.length cl, .int .i64 v.copy.apart, .string v.copy.near, .string v.copy.fixed, .string v.copy.at_, .string v.name, .string v.at_] 50)).alloc (Obj.cells #[.bool false, .slice none 0 0, .slice none 0 0, .slice none 0 0] 41)) = w3 at *
 go_wp2_with (refine wpList_load_mid rfl 41 _ rfl w.heap.size 0 rfl [.bool x.pack, .slice a1 x.berths.length c1, .slice (some ⟨b2, o2, none⟩) x.services.length c2, .slice a3 x.copies.length c3] _ HF3.out.rangeA Tryz.underlying41 rfl isz_Flt ?_)
 refine (fleetOf_any x a1 c1 b2 o2 c2 a3 c3 lo _ (N1.out.below BrtC.holds hB3 nL) (N2.out.below SvcC.holds hB3 nL) (N3.out.below CpyC.holds hB3 nL) (by omega) (by omega) (by omega) HMK.out HLK.out).mono ?_
 rintro e w4 ⟨d1, q1, g2, q2, d3, q3, bs, H, wB, rfl, hsf, hs1, hH1, hH2, hwB, hkB, hs2, hg2, hoc, hb4⟩
 have HSF := iH hsf
 have HS1 := iH hs1
 have HS2 := iH hs2
 have HOC := iH hoc
 have hHw : w.heap.size ≤ w3.heap.size := hB3.size
 have HRL : w.heap.size + 1 + 1 < w3.heap.size := HR3.out.lt
 have HKB := iH hkB
 have HWB := iH (And.intro hwB hg2)
 have hB4 := hB3.trans (hb4.mono hB3.size)
 have hW34 : w3.heap.size ≤ w4.heap.size := hb4.size
 have HE4 := HE3.out.below hb4 HE3.out.lt
 have HR4 := HR3.out.below hb4 HR3.out.lt
 have hr4 := HR4.lt
 have hza : Blk w4.heap.size #[.bool false, .slice none 0 0, .slice none 0 0, .slice none 0 0] 41 (w4.alloc (Obj.cells #[.bool false, .slice none 0 0, .slice none 0 0, .slice none 0 0] 41)) := Blk.alloc _ _ _
 have HTS : Hid ((w4.alloc (Obj.cells #[.bool false, .slice none 0 0, .slice none 0 0, .slice none 0 0] 41)).there w4.heap.size 0 4) := hza.there
 obtain ⟨w5, HW5⟩ : ∃ w5, Hid (w5 = (w4.alloc (Obj.cells #[.bool false, .slice none 0 0, .slice none 0 0, .slice none 0 0] 41)).setCells w4.heap.size 0 [.bool x.pack, .slice d1 x.berths.length q1, .slice (some ⟨g2, 0, none⟩) x.services.length q2, .slice d3 x.copies.length q3]) := ⟨_, rfl⟩
 have hbx : Below w4.heap.size w4 w5 := by
  rw [HW5.out]
  exact below_setCells nL _ _ _ ((Below.refl _ w4).alloc nL _)
 have hk5 : Blk w4.heap.size #[.bool x.pack, .slice d1 x.berths.length q1, .slice (some ⟨g2, 0, none⟩) x.services.length q2, .slice d3 x.copies.length q3] 41 w5 := by
  rw [HW5.out]
  exact hza.setAll #[.bool x.pack, .slice d1 x.berths.length q1, .slice (some ⟨g2, 0, none⟩) x.services.length q2, .slice d3 x.copies.length q3] rfl
 obtain ⟨gx, hgx⟩ : ∃ gx, gx = w4.heap.size := ⟨_, rfl⟩
 obtain ⟨eb, heb⟩ : ∃ eb, eb = w.heap.size + 1 := ⟨_, rfl⟩
 obtain ⟨rb, hrb⟩ : ∃ rb, rb = w.heap.size + 1 + 1 := ⟨_, rfl⟩
 have HEW : Hid (EvW x v am cm al cl gx eb rb (.slice d1 x.berths.length q1) (.slice (some ⟨g2, 0, none⟩) x.services.length q2) (.slice d3 x.copies.length q3) w w4 w5) := ⟨by rw [hgx]; exact hk5, by rw [heb]; exact HE4.below hbx HE4.lt, by rw [hrb]; exact HR4.below hbx HR4.lt, hB4.trans (hbx.mono hB4.size), by rw [hgx]; exact hbx, by omega, by omega, by omega, by omega⟩
 have HGX : Hid (w4.heap.size = gx) := hgx.symm
 go_upto_region 2 with (refine wpList_store_to rfl 41 _ _ rfl w4.heap.size 0 #[.bool x.pack, .slice d1 x.berths.length q1, .slice (some ⟨g2, 0, none⟩) x.services.length q2, .slice d3 x.copies.length q3] rfl rfl HTS.out isz_Flt (by simp [Value.oneCell']) w5 HW5.out ?_)
 clear HTS HW5 hza hbx hk5 HE4 HR4 hB4 HF3 HE3 HR3 hsf hs1 hs2 hoc hb4 hr4 hkB hwB hg2
 rw [← HGX.out] at hgx
 clear hgx
 rw [HGX.out, ← hrb, ← heb]
 have HRB0 : rb < w3.heap.size := by rw [hrb]; exact HRL
 clear heb hrb HRL
 have HRB : Hid (rb < w3.heap.size) := HRB0
 have _hv := And.intro hvm hvl
 clear _hv
 have e1 : ¬ v.kind = 1 := f1.out
 have e2 : ¬ v.kind = 2 := f2.out
 have e3 : ¬ v.kind = 3 := f3.out
 have e4 : ¬ v.kind = 4 := f4.out
 have e5 : ¬ v.kind = 5 := f5.out
 clear f1 f2 f3 f4 f5
 have HEV : Hid (evF x v = some x) := by
  show evF x v = some x
  unfold evF
  rw [if_neg e1, if_neg e2, if_neg e3, if_neg e4, if_neg e5]
 have k0 : w5.cell? ⟨eb, 0, none⟩ = some (.int .i64 v.kind) := HEW.out.he.cell rfl
 have f1 : (v.kind == 1) = false := by simpa using e1
 have f2 : (v.kind == 2) = false := by simpa using e2
 have f3 : (v.kind == 3) = false := by simpa using e3
 have f4 : (v.kind == 4) = false := by simpa using e4
 have f5 : (v.kind == 5) = false := by simpa using e5
 go_upto_region 39 with fail
 clear k0 f1 e1 f2 e2 f3 e3 f4 e4 f5 e5
 have HTR := iH HEW.out.hr.there
 have HLX := iH HEW.out.hx.rangeA
 obtain ⟨wz, HWZ⟩ : ∃ w', Hid (w' = w5.setCells rb 0 [.bool x.pack, .slice d1 x.berths.length q1, .slice (some ⟨g2, 0, none⟩) x.services.length q2, .slice d3 x.copies.length q3]) := ⟨_, rfl⟩
 have HRZ : Hid (wz.rangeAt rb 0 [.bool x.pack, .slice d1 x.berths.length q1, .slice (some ⟨g2, 0, none⟩) x.services.length q2, .slice d3 x.copies.length q3]) := by
  show World.rangeAt _ _ _ _
  rw [HWZ.out]
  exact World.rangeAt_setCells_same _ _ _ _ HTR.out
 have hBZ : Below w.heap.size w wz := by
  have k1 := HEW.out.i1
  have k2 := HEW.out.i2
  rw [HWZ.out]
  exact below_setCells (by omega) _ _ _ HEW.out.hb
 have hRB : rb < w3.heap.size := HRB.out
 have HKV : Hid (Keeps w3.heap.size w4 wz) := by
  show Keeps _ _ _
  rw [HWZ.out]
  have h9 : Keeps w3.heap.size w4 w5 := Keeps.of_below HEW.out.h4 (Nat.le_of_eq HGX.out) _
  exact h9.trans (Keeps.setCells hRB _ _ _)
 have HKW : Hid (Keeps H wB wz) := HKB.out.trans (HKV.out.up hH1)
 go_wp2_with (first | (refine wpList_load_mid rfl 41 _ rfl gx 0 rfl [.bool x.pack, .slice d1 x.berths.length q1, .slice (some ⟨g2, 0, none⟩) x.services.length q2, .slice d3 x.copies.length q3] _ HLX.out Tryz.underlying41 rfl isz_Flt ?_) | (refine wpList_store_to rfl 41 _ _ rfl rb 0 #[.bool x.pack, .slice d1 x.berths.length q1, .slice (some ⟨g2, 0, none⟩) x.services.length q2, .slice d3 x.copies.length q3] rfl rfl HTR.out isz_Flt (by simp [Value.oneCell']) wz HWZ.out ?_))
 exact bodyPost_ret (results_ctV rfl _ _ rb [.bool x.pack, .slice d1 x.berths.length q1, .slice (some ⟨g2, 0, none⟩) x.services.length q2, .slice d3 x.copies.length q3] _ rfl HRZ.out Tryz.underlying41 rfl isz_Flt) rfl (.inr ⟨x, d1, q1, some ⟨g2, 0, none⟩, q2, d3, q3, HEV.out, rfl, (HS1.out.keep BrtC.holds HKW.out (Nat.le_trans hHw hH1)), (HS2.out.keep SvcC.holds HKV.out hHw), ((HOC.out.copies HZC.out (by unfold maxLen; omega)).keep CpyC.holds (HKV.out.up (Nat.le_trans hH1 hH2)) (Nat.le_trans hHw (Nat.le_trans hH1 hH2))), hBZ⟩)

end Go.Proofs.YtihnjndnkgnmaaaGreat
