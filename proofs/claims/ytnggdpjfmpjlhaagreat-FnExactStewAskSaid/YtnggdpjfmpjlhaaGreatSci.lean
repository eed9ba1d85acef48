import Derived.Test.YtnggdpjfmpjlhaaGreatJ34
import Derived.Test.YtnggdpjfmpjlhaaGreatJ11
namespace Go.Proofs.YtnggdpjfmpjlhaaGreat
open Go.RowKit Go.WideMaps Go.Maps
attribute [local go_sem] Oper.semAt_some

def stq (im : Int) (t : Sct) (c : Scp) : Sct :=
 if c.ending = true then { t with ending := t.ending + 1 }
 else ⟨t.live + 1, (if c.state = 3 then t.ready + 1 else t.ready), (if c.image = im then t.old else t.old + 1), (if c.state = 4 then t.failed + 1 else t.failed), t.ending⟩

def cqL (im : Int) (l : List Scp) : Sct := l.foldl (stq im) ⟨0, 0, 0, 0, 0⟩

theorem cqL_snoc (im : Int) (l : List Scp) (c : Scp) : cqL im (l ++ [c]) = stq im (cqL im l) c := by
 unfold cqL
 rw [List.foldl_append]
 rfl

theorem fold_filter (s : ByteArray) (im : Int) : ∀ (l : List Scp) (t : Sct), l.foldl (fun t c => stp t c s im) t = (l.filter (fun c => decide (c.service = s))).foldl (stq im) t
 | [], _ => rfl
 | c :: l, t => by
  rw [List.foldl_cons, fold_filter s im l]
  by_cases h : c.service = s
  ·rw [List.filter_cons_of_pos (by simp [h]), List.foldl_cons]
   congr 1
   unfold stp stq
   rw [if_pos h]
  ·rw [List.filter_cons_of_neg (by simp [h])]
   congr 1
   unfold stp
   rw [if_neg h]

theorem cnt_filter (l : List Scp) (s : ByteArray) (im : Int) : cntL l s im = cqL im (l.filter (fun c => decide (c.service = s))) := fold_filter s im l _

theorem stq_bd {im : Int} {t : Sct} {k : Nat} (c : Scp) (h : BndT t k) : BndT (stq im t c) (k + 1) := by
 obtain ⟨h1, h2, h3, h4, h5, h6, h7, h8, h9, h10⟩ := h
 unfold stq
 split
 ·exact ⟨h1, by push_cast; omega, h3, by push_cast; omega, h5, by push_cast; omega, h7, by push_cast; omega, by show 0 ≤ t.ending + 1; omega, by show t.ending + 1 ≤ _; push_cast; omega⟩
 ·refine ⟨by show 0 ≤ t.live + 1; omega, by show t.live + 1 ≤ _; push_cast; omega, ?_, ?_, ?_, ?_, ?_, ?_, h9, by push_cast; omega⟩
  all_goals (dsimp only; split <;> (first | omega | (push_cast; omega)))

theorem cqL_bd (im : Int) (l : List Scp) : BndT (cqL im l) l.length := by
 have : ∀ (l : List Scp) (t : Sct) (k : Nat), BndT t k → BndT (l.foldl (stq im) t) (k + l.length) := by
  intro l
  induction l with
  | nil => intro t k h; exact h
  | cons c l ih =>
   intro t k h
   have := ih _ _ (stq_bd (im := im) c h)
   rw [List.foldl_cons, List.length_cons, show k + (l.length + 1) = k + 1 + l.length by omega]
   exact this
 have h := this l ⟨0, 0, 0, 0, 0⟩ 0 (by unfold BndT; simp)
 rw [Nat.zero_add] at h
 exact h

theorem heap_setCells_other {g k : Nat} (h : k ≠ g) : ∀ (vs : List Value) (o : Nat) (w : World), (w.setCells g o vs).heap[k]? = w.heap[k]?
 | [], _, _ => rfl
 | v :: r, o, w => (heap_setCells_other h r (o + 1) _).trans (Below.heap_setCell w ⟨g, o, none⟩ v k h)

def ctA (t : Sct) : Array Value := #[.int .i64 t.live, .int .i64 t.ready, .int .i64 t.old, .int .i64 t.failed, .int .i64 t.ending]

theorem wpListIn_store_to {F : Fence} {nF : Nat} {P : Program} {ops : Array Oper} {rest : List Oper} {op : Oper} {a : Act} {w : World} {Q : Exit → Act → World → Prop} (hgd : op.guard = none) (ty : TypeId) (x y : Operand) (ho : op.op = .store ty x y)
  (b o : Nat) (cells : Array Value) (hx : a.eval x = .pointer (some ⟨b, o, none⟩)) (hy : a.eval y = .agg cells)
  (ht : w.there b o cells.size) (hi : (P.info? ty).map (·.size) = some cells.size) (h1 : cells.all (·.oneCell') = true) (w' : World) (hw : w' = w.setCells b o cells.toList)
  (h : wpListIn F nF P ops Q rest (a.put op.dst undef) w') : wpListIn F nF P ops Q (op :: rest) a w := by
 subst hw
 refine wpListIn_plain hgd fun K' hK' => ?_
 unfold Oper.wpIn
 refine ⟨by simp [Oper.about, ho], ?_⟩
 rw [Oper.semAt_plain F _ _ (by rw [ho]; intro c hc'; cases hc')]
 simp only [execOp, ho, hx, hy, Instr.storeAt, Instr.sureAddr, Sem.run_bind, Sem.run_pure, Result.andThen_ok, run_storeVar_mid w b o ty cells ht hi h1]
 exact hK' _ _ h

set_option maxHeartbeats 8000000 in
set_option maxRecDepth 100000 in
theorem fcount_any (x : Sbk) (a1 : Option Addr) (c1 : Nat) (b2 o2 c2 : Nat) (a3 : Option Addr) (c3 : Nat) (p m n lo : Nat) (v : Ssv) (w : World) (hF : FndS x a1 c1 (some ⟨b2, o2, none⟩) c2 a3 c3 p m n lo w) (hv : SVal x) (hcap : x.copies.length ≤ c2) :
  Calls Tryz.prog 58 #[.pointer (some ⟨p, 0, none⟩), .agg #[.string v.name, .int .i64 v.version, .bool v.gone, .int .i64 v.image, .int .i64 v.want, .int .i64 v.down, .int .i64 v.over, .int .i64 v.next, .int .i64 v.per, .int .i64 v.least, .int .i64 v.most, .int .i64 v.load, .int .i64 v.cool]] w fun e w' => e = .returned (.agg #[.int .i64 (cntL x.copies v.name v.image).live, .int .i64 (cntL x.copies v.name v.image).ready, .int .i64 (cntL x.copies v.name v.image).old, .int .i64 (cntL x.copies v.name v.image).failed, .int .i64 (cntL x.copies v.name v.image).ending]) ∧ Below w.heap.size w w' := by
 have HF := Hid.intro hF
 have HV := Hid.intro hv
 have HCAP := Hid.intro hcap
 have l2 := hv.l2
 have hp0 : p < w.heap.size := hF.blk.lt
 clear hF hv hcap
 have HSa : Blk w.heap.size #[.string v.name, .int .i64 v.version, .bool v.gone, .int .i64 v.image, .int .i64 v.want, .int .i64 v.down, .int .i64 v.over, .int .i64 v.next, .int .i64 v.per, .int .i64 v.least, .int .i64 v.most, .int .i64 v.load, .int .i64 v.cool] 50 (w.alloc (Obj.cells #[.string v.name, .int .i64 v.version, .bool v.gone, .int .i64 v.image, .int .i64 v.want, .int .i64 v.down, .int .i64 v.over, .int .i64 v.next, .int .i64 v.per, .int .i64 v.least, .int .i64 v.most, .int .i64 v.load, .int .i64 v.cool] 50)) := Blk.alloc _ _ _
 have HRa : Blk (w.heap.size + 1) #[.int .i64 0, .int .i64 0, .int .i64 0, .int .i64 0, .int .i64 0] 94 ((w.alloc (Obj.cells #[.string v.name, .int .i64 v.version, .bool v.gone, .int .i64 v.image, .int .i64 v.want, .int .i64 v.down, .int .i64 v.over, .int .i64 v.next, .int .i64 v.per, .int .i64 v.least, .int .i64 v.most, .int .i64 v.load, .int .i64 v.cool] 50)).alloc (Obj.cells #[.int .i64 0, .int .i64 0, .int .i64 0, .int .i64 0, .int .i64 0] 94)) := by
  have := Blk.alloc (w.alloc (Obj.cells #[.string v.name, .int .i64 v.version, .bool v.gone, .int .i64 v.image, .int .i64 v.want, .int .i64 v.down, .int .i64 v.over, .int .i64 v.next, .int .i64 v.per, .int .i64 v.least, .int .i64 v.most, .int .i64 v.load, .int .i64 v.cool] 50)) #[.int .i64 0, .int .i64 0, .int .i64 0, .int .i64 0, .int .i64 0] 94
  simpa using this
 have HG3 : Hid (Blk (w.heap.size + 1 + 1) #[.int .i64 0, .int .i64 0, .int .i64 0, .int .i64 0, .int .i64 0] 94 (((w.alloc (Obj.cells #[.string v.name, .int .i64 v.version, .bool v.gone, .int .i64 v.image, .int .i64 v.want, .int .i64 v.down, .int .i64 v.over, .int .i64 v.next, .int .i64 v.per, .int .i64 v.least, .int .i64 v.most, .int .i64 v.load, .int .i64 v.cool] 50)).alloc (Obj.cells #[.int .i64 0, .int .i64 0, .int .i64 0, .int .i64 0, .int .i64 0] 94)).alloc (Obj.cells #[.int .i64 0, .int .i64 0, .int .i64 0, .int .i64 0, .int .i64 0] 94))) := by
  have := Blk.alloc ((w.alloc (Obj.cells #[.string v.name, .int .i64 v.version, .bool v.gone, .int .i64 v.image, .int .i64 v.want, .int .i64 v.down, .int .i64 v.over, .int .i64 v.next, .int .i64 v.per, .int .i64 v.least, .int .i64 v.most, .int .i64 v.load, .int .i64 v.cool] 50)).alloc (Obj.cells #[.int .i64 0, .int .i64 0, .int .i64 0, .int .i64 0, .int .i64 0] 94)) #[.int .i64 0, .int .i64 0, .int .i64 0, .int .i64 0, .int .i64 0] 94
  show Blk _ _ _ _
  rw [World.size_alloc, World.size_alloc] at this
  exact this
 have HS3 : Hid (Blk w.heap.size #[.string v.name, .int .i64 v.version, .bool v.gone, .int .i64 v.image, .int .i64 v.want, .int .i64 v.down, .int .i64 v.over, .int .i64 v.next, .int .i64 v.per, .int .i64 v.least, .int .i64 v.most, .int .i64 v.load, .int .i64 v.cool] 50 (((w.alloc (Obj.cells #[.string v.name, .int .i64 v.version, .bool v.gone, .int .i64 v.image, .int .i64 v.want, .int .i64 v.down, .int .i64 v.over, .int .i64 v.next, .int .i64 v.per, .int .i64 v.least, .int .i64 v.most, .int .i64 v.load, .int .i64 v.cool] 50)).alloc (Obj.cells #[.int .i64 0, .int .i64 0, .int .i64 0, .int .i64 0, .int .i64 0] 94)).alloc (Obj.cells #[.int .i64 0, .int .i64 0, .int .i64 0, .int .i64 0, .int .i64 0] 94))) := (HSa.below ((Below.refl _ _).alloc (Nat.le_refl _) _) HSa.lt).below ((Below.refl _ _).alloc (Nat.le_refl _) _) (by simp; omega)
 have HR3 : Hid (Blk (w.heap.size + 1) #[.int .i64 0, .int .i64 0, .int .i64 0, .int .i64 0, .int .i64 0] 94 (((w.alloc (Obj.cells #[.string v.name, .int .i64 v.version, .bool v.gone, .int .i64 v.image, .int .i64 v.want, .int .i64 v.down, .int .i64 v.over, .int .i64 v.next, .int .i64 v.per, .int .i64 v.least, .int .i64 v.most, .int .i64 v.load, .int .i64 v.cool] 50)).alloc (Obj.cells #[.int .i64 0, .int .i64 0, .int .i64 0, .int .i64 0, .int .i64 0] 94)).alloc (Obj.cells #[.int .i64 0, .int .i64 0, .int .i64 0, .int .i64 0, .int .i64 0] 94))) := HRa.below ((Below.refl _ _).alloc (Nat.le_refl _) _) HRa.lt
 have hB3 : Below w.heap.size w (((w.alloc (Obj.cells #[.string v.name, .int .i64 v.version, .bool v.gone, .int .i64 v.image, .int .i64 v.want, .int .i64 v.down, .int .i64 v.over, .int .i64 v.next, .int .i64 v.per, .int .i64 v.least, .int .i64 v.most, .int .i64 v.load, .int .i64 v.cool] 50)).alloc (Obj.cells #[.int .i64 0, .int .i64 0, .int .i64 0, .int .i64 0, .int .i64 0] 94)).alloc (Obj.cells #[.int .i64 0, .int .i64 0, .int .i64 0, .int .i64 0, .int .i64 0] 94)) := by go_grown
 clear HSa HRa
 refine (callsIn_wide (n := 7)).1 ?_
 refine callsIn_of_wp_marks Tryz.func58 rfl trivial ?_ rfl
 refine wpIn_wide.2 ?_
 simp only [Tryz.ntmps58, List.size_toArray, List.length_cons, List.length_nil, Nat.reduceAdd, Nat.reduceSub, Array.replicate_succ, Array.replicate_zero, List.push_toArray, List.append_toArray, List.nil_append, List.cons_append]
 go_upto_region 2 with fail
 generalize ((w.alloc (Obj.cells #[.string v.name, .int .i64 v.version, .bool v.gone, .int .i64 v.image, .int .i64 v.want, .int .i64 v.down, .int .i64 v.over, .int .i64 v.next, .int .i64 v.per, .int .i64 v.least, .int .i64 v.most, .int .i64 v.load, .int .i64 v.cool] 50)).alloc (Obj.cells #[.int .i64 0, .int .i64 0, .int .i64 0, .int .i64 0, .int .i64 0] 94)).alloc (Obj.cells #[.int .i64 0, .int .i64 0, .int .i64 0, .int .i64 0, .int .i64 0] 94) = w3 at *
 have hr1 : w.heap.size ≤ w.heap.size + 1 := by omega
 have hr2 : w.heap.size + 1 < w.heap.size + 1 + 1 := by omega
 generalize w.heap.size + 1 + 1 = gN at *
 have hr3 : w.heap.size < w.heap.size + 1 := by omega
 generalize w.heap.size + 1 = gR at *
 have HF3 := Hid.intro (HF.out.below hB3)
 have s0 : w3.cell? ⟨w.heap.size, 0, none⟩ = some (.string v.name) := HS3.out.cell rfl
 go_wp2_with fail
 refine (copiesOf_any p v.name _).mono ?_
 rintro e w6 ⟨rfl, hw6⟩
 have hb6 : Below w3.heap.size w3 w6 := by rw [hw6]; exact ((Below.refl _ w3).alloc (Nat.le_refl _) _).alloc (by simp) _
 have HX6 : Hid (Blk w3.heap.size #[.pointer (some ⟨p, 0, none⟩)] 54 w6) := by
  show Blk _ _ _ _
  rw [hw6]
  exact (Blk.alloc w3 _ _).below ((Below.refl _ _).alloc (Nat.le_refl _) _) (Blk.alloc w3 _ _).lt
 have HV6 : Hid (Blk (w3.heap.size + 1) #[.string v.name] 9 w6) := by
  rw [hw6]
  have h := Blk.alloc (w3.alloc (Obj.cells #[.pointer (some ⟨p, 0, none⟩)] 54)) #[.string v.name] 9
  show Blk _ _ _ _
  simpa using h
 have HF6 := Hid.intro (HF3.out.below hb6)
 have HIT : Hid (CpIn p w3.heap.size (w3.heap.size + 1) b2 o2 c2 x v.name w6) := ⟨HX6.out.cell rfl, HV6.out.cell rfl, HF6.out.blk.cell rfl⟩
 have HG6 := Hid.intro (HG3.out.below hb6 HG3.out.lt)
 have HS6 := Hid.intro (HS3.out.below hb6 HS3.out.lt)
 have HR6 := Hid.intro (HR3.out.below hb6 HR3.out.lt)
 have HB6 : Hid (Below w.heap.size w w6) := hB3.trans (hb6.mono hB3.size)
 have hs6 : w3.heap.size + 1 < w6.heap.size := HV6.out.lt
 have hg3 : gN < w3.heap.size := HG3.out.lt
 clear hw6 hb6 HG3 HS3 HR3 hB3 HF3 s0 HX6 HV6
 go_wp2_with fail
 refine wpIn_wide.1 (wpIn_rangeFunc_ownH (F := Fence.wide) (n := 6) rfl (by omega) (gf := 114) (lb := #[.pointer (some ⟨w3.heap.size, 0, none⟩), .pointer (some ⟨w3.heap.size + 1, 0, none⟩)]) rfl trivial (enters_of Tryz.func114 (by kernel_rfl) rfl)
  (copies_stops p w3.heap.size (w3.heap.size + 1) gN w6.heap.size x b2 o2 c2 v.name lo w w6 HB6.out HF.out.n2 HIT.out l2 HCAP.out HV.out.c2 HB6.out.size (by omega) (Nat.le_refl _) ⟨by omega, by omega⟩ ⟨by omega, by omega⟩ ⟨by omega, by omega⟩)
  (fun h1 h2 => h1.trans h2) (fun W' l' o o' hl _ _ _ => ⟨rfl, rfl, rfl, (grownBy_putObj' W' l' o').size, fun k hk _ => World.putObj_heap_other (by omega)⟩) (Below.refl _ _) (fun _ => rfl)
  (fun pre W' => Blk gN (ctA (cqL v.image pre)) 94 W' ∧ Blk w.heap.size #[.string v.name, .int .i64 v.version, .bool v.gone, .int .i64 v.image, .int .i64 v.want, .int .i64 v.down, .int .i64 v.over, .int .i64 v.next, .int .i64 v.per, .int .i64 v.least, .int .i64 v.most, .int .i64 v.load, .int .i64 v.cool] 50 W' ∧ Blk gR #[.int .i64 0, .int .i64 0, .int .i64 0, .int .i64 0, .int .i64 0] 94 W' ∧ Below w.heap.size w W' ∧ w6.heap.size ≤ W'.heap.size)
  (fun _ _ _ => False) ?_ ?_ ?_ (fun c a' W' => ∃ Bx, w6.heap.size ≤ Bx ∧ Blk Bx #[.string c.service, .int .i64 c.number, .int .i64 c.version, .int .i64 c.image, .int .i64 c.state, .bool c.ending, .string c.berth] 87 W' ∧ a' = { tmps := #[.pointer (some ⟨p, 0, none⟩), .agg #[.string v.name, .int .i64 v.version, .bool v.gone, .int .i64 v.image, .int .i64 v.want, .int .i64 v.down, .int .i64 v.over, .int .i64 v.next, .int .i64 v.per, .int .i64 v.least, .int .i64 v.most, .int .i64 v.load, .int .i64 v.cool], undef, .pointer (some ⟨w.heap.size, 0, none⟩), .pointer (some ⟨gR, 0, none⟩), .pointer (some ⟨gN, 0, none⟩), .pointer (some ⟨Bx, 0, none⟩), .pointer (some ⟨p, 0, none⟩), .pointer (some ⟨w.heap.size, 0, none⟩), .string v.name, .func (.func 114) #[] #[.pointer (some ⟨w3.heap.size, 0, none⟩), .pointer (some ⟨w3.heap.size + 1, 0, none⟩)], .agg #[.string c.service, .int .i64 c.number, .int .i64 c.version, .int .i64 c.image, .int .i64 c.state, .bool c.ending, .string c.berth], undef, undef, undef, undef, undef, undef, undef, undef, undef, undef, undef, undef, undef, undef, undef, undef, undef, undef, undef, undef, undef, undef, undef, undef, undef, undef, undef, undef, undef, undef, undef, undef, undef, undef], defers := [] }) ?_ ?_ ?_ ?_ ?_)
 ·rintro s A B row ⟨h1, h2, h3, h4, h5⟩ hgr hr
  have hne : ∀ k, k < w6.heap.size → some k ≠ row := fun k hk e => by have := (hr _ e.symm).1; omega
  exact ⟨h1.grown hgr (hne _ (by omega)), h2.grown hgr (hne _ (by omega)), h3.grown hgr (hne _ (by omega)), h4.grown hgr h4.size (fun k e => by have := (hr k e).1; omega), Nat.le_trans h5 hgr.size⟩
 ·intro c s A B row h
  exact h.elim
 ·exact ⟨HG6.out, HS6.out, HR6.out, HB6.out, Nat.le_refl _⟩
 ·rintro s a' _ A B row ⟨Bx, h1, h2, h3⟩ hgr hr
  refine ⟨Bx, h1, h2.grown hgr (fun e => ?_), h3⟩
  obtain ⟨_, o, ho, hc⟩ := hr _ e.symm
  rw [show A.heap[Bx]? = _ from h2] at ho
  cases ho
  cases hc
 ·rintro l' pre c W' K ⟨h1, h2, h3, h4, h5⟩ hK
  have hKK := Hid.intro hK
  clear hK
  have hza : Blk W'.heap.size #[.string ⟨#[]⟩, .int .i64 0, .int .i64 0, .int .i64 0, .int .i64 0, .bool false, .string ⟨#[]⟩] 87 (W'.alloc (Obj.cells #[.string ⟨#[]⟩, .int .i64 0, .int .i64 0, .int .i64 0, .int .i64 0, .bool false, .string ⟨#[]⟩] 87)) := Blk.alloc _ _ _
  have HTS : Hid ((W'.alloc (Obj.cells #[.string ⟨#[]⟩, .int .i64 0, .int .i64 0, .int .i64 0, .int .i64 0, .bool false, .string ⟨#[]⟩] 87)).there W'.heap.size 0 7) := hza.there
  obtain ⟨wz, HWZ⟩ : ∃ wz, Hid (wz = (W'.alloc (Obj.cells #[.string ⟨#[]⟩, .int .i64 0, .int .i64 0, .int .i64 0, .int .i64 0, .bool false, .string ⟨#[]⟩] 87)).setCells W'.heap.size 0 [.string c.service, .int .i64 c.number, .int .i64 c.version, .int .i64 c.image, .int .i64 c.state, .bool c.ending, .string c.berth]) := ⟨_, rfl⟩
  have HKZ : Hid (Blk W'.heap.size #[.string c.service, .int .i64 c.number, .int .i64 c.version, .int .i64 c.image, .int .i64 c.state, .bool c.ending, .string c.berth] 87 wz) := by
   show Blk _ _ _ _
   rw [HWZ.out]
   exact hza.setAll #[.string c.service, .int .i64 c.number, .int .i64 c.version, .int .i64 c.image, .int .i64 c.state, .bool c.ending, .string c.berth] rfl
  have hbz : Below W'.heap.size W' wz := by
   rw [HWZ.out]
   exact below_setCells (Nat.le_refl _) _ _ _ ((Below.refl _ W').alloc (Nat.le_refl _) _)
  have HBZ := Hid.intro hbz
  clear hza hbz
  gi_wp2_with (refine wpListIn_store_to rfl 87 _ _ rfl W'.heap.size 0 #[.string c.service, .int .i64 c.number, .int .i64 c.version, .int .i64 c.image, .int .i64 c.state, .bool c.ending, .string c.berth] rfl rfl HTS.out isz_Scp (by simp [Value.oneCell']) wz HWZ.out ?_)
  have hbz := HBZ.out
  exact hKK.out _ _ ⟨hbz.size, fun k o _ ho _ => (hbz.block k (Array.getElem?_eq_some_iff.1 ho).1).trans ho⟩ (But.of_below (hbz.mono h5)) ⟨h1.below hbz h1.lt, h2.below hbz h2.lt, h3.below hbz h3.lt, h4.trans (hbz.mono h4.size), Nat.le_trans h5 hbz.size⟩ ⟨W'.heap.size, h5, HKZ.out, rfl⟩
 ·rintro l' pre c a' W' hl' ⟨r', hr'⟩ ⟨h1, h2, h3, h4, h5⟩ ⟨Bx, hBx, hbx, rfl⟩ hlt'
  obtain ⟨b1, b2, b3, b4, b5, b6, b7, b8, b9, b10⟩ := cqL_bd v.image pre
  have hSN := cqL_snoc v.image pre c
  obtain ⟨T, hT⟩ : ∃ T, cqL v.image pre = T := ⟨_, rfl⟩
  rw [hT] at h1 b1 b2 b3 b4 b5 b6 b7 b8 b9 b10 hSN
  clear hT
  have H1 : Hid (Blk gN #[.int .i64 T.live, .int .i64 T.ready, .int .i64 T.old, .int .i64 T.failed, .int .i64 T.ending] 94 W') := h1
  have H2 := Hid.intro h2
  have H3 := Hid.intro h3
  have H4 := Hid.intro h4
  have H5 := Hid.intro h5
  have HX := Hid.intro hbx
  have v0 : T.live ≤ 200 := by omega
  have v1 : T.ready ≤ 200 := by omega
  have v2 : T.old ≤ 200 := by omega
  have v3 : T.failed ≤ 200 := by omega
  have v4 : T.ending ≤ 200 := by omega
  have hbg : Bx ≠ gN := by omega
  have hsg : w.heap.size ≠ gN := by omega
  have hrg : gR ≠ gN := by omega
  clear h1 h2 h3 h4 h5 hr' b2 b4 b6 b8 b10
  have y5 : W'.cell? ⟨Bx, 5, none⟩ = some (.bool c.ending) := HX.out.cell rfl
  cases hen : c.ending with
  | true =>
   rw [hen] at y5
   have HSN : Hid (ctA (cqL v.image (pre ++ [c])) = #[.int .i64 T.live, .int .i64 T.ready, .int .i64 T.old, .int .i64 T.failed, .int .i64 (T.ending + 1)]) := by show _ = _; rw [hSN]; unfold stq; rw [if_pos hen]; rfl
   clear hSN hen
   have hx1 : Blk gN #[.int .i64 T.live, .int .i64 T.ready, .int .i64 T.old, .int .i64 T.failed, .int .i64 (T.ending + 1)] 94 (W'.setCell ⟨gN, 4, none⟩ (.int .i64 (T.ending + 1))) := H1.out.set 4 (.int .i64 (T.ending + 1))
   have hb1 : Blk Bx #[.string c.service, .int .i64 c.number, .int .i64 c.version, .int .i64 c.image, .int .i64 c.state, .bool c.ending, .string c.berth] 87 (W'.setCell ⟨gN, 4, none⟩ (.int .i64 (T.ending + 1))) := HX.out.other (a := ⟨gN, 4, none⟩) hbg _
   have hs1 : Blk w.heap.size #[.string v.name, .int .i64 v.version, .bool v.gone, .int .i64 v.image, .int .i64 v.want, .int .i64 v.down, .int .i64 v.over, .int .i64 v.next, .int .i64 v.per, .int .i64 v.least, .int .i64 v.most, .int .i64 v.load, .int .i64 v.cool] 50 (W'.setCell ⟨gN, 4, none⟩ (.int .i64 (T.ending + 1))) := H2.out.other (a := ⟨gN, 4, none⟩) hsg _
   have o0_0 : W'.cell? ⟨gN, 0, none⟩ = some (.int .i64 T.live) := H1.out.cell rfl
   have f0_0 : W'.frozen? ⟨gN, 0, none⟩ = false := H1.out.frozen 0
   have o0_1 : W'.cell? ⟨gN, 1, none⟩ = some (.int .i64 T.ready) := H1.out.cell rfl
   have f0_1 : W'.frozen? ⟨gN, 1, none⟩ = false := H1.out.frozen 1
   have o0_2 : W'.cell? ⟨gN, 2, none⟩ = some (.int .i64 T.old) := H1.out.cell rfl
   have f0_2 : W'.frozen? ⟨gN, 2, none⟩ = false := H1.out.frozen 2
   have o0_3 : W'.cell? ⟨gN, 3, none⟩ = some (.int .i64 T.failed) := H1.out.cell rfl
   have f0_3 : W'.frozen? ⟨gN, 3, none⟩ = false := H1.out.frozen 3
   have o0_4 : W'.cell? ⟨gN, 4, none⟩ = some (.int .i64 T.ending) := H1.out.cell rfl
   have f0_4 : W'.frozen? ⟨gN, 4, none⟩ = false := H1.out.frozen 4
   have c0_3 : W'.cell? ⟨Bx, 3, none⟩ = some (.int .i64 c.image) := HX.out.cell rfl
   have c0_4 : W'.cell? ⟨Bx, 4, none⟩ = some (.int .i64 c.state) := HX.out.cell rfl
   have d0_3 : W'.cell? ⟨w.heap.size, 3, none⟩ = some (.int .i64 v.image) := H2.out.cell rfl
   have HZZ := Hid.intro hx1
   have HSS := Hid.intro hs1
   clear hx1 hb1 hs1
   gi_wp2
   refine ⟨(KeepsOthers.setCell _ _ _).from _, ((But.refl gN w6.heap.size W').set 4 _), ?_, HSS.out, (H3.out.other (a := ⟨gN, 4, none⟩) hrg _), (H4.out.setCell (p := ⟨gN, 4, none⟩) (by show w.heap.size ≤ gN; omega) _), by simp [World.setCell]; exact H5.out⟩
   rw [HSN.out]
   exact HZZ.out
  | false =>
   rw [hen] at y5
   by_cases h3 : c.state = 3
   ·skip
    by_cases him : c.image = v.image
    ·skip
     have h4 : ¬ c.state = 4 := by omega
     have HSN : Hid (ctA (cqL v.image (pre ++ [c])) = #[.int .i64 (T.live + 1), .int .i64 (T.ready + 1), .int .i64 T.old, .int .i64 T.failed, .int .i64 T.ending]) := by show _ = _; rw [hSN]; unfold stq; rw [if_neg (by rw [hen]; simp), if_pos h3, if_pos him, if_neg h4]; rfl
     have e3 : (c.state == 3) = true := by simpa using h3
     have e4 : (c.state == 4) = false := by simpa using h4
     have ei : (c.image == v.image) = true := by simpa using him
     have en : (c.image != v.image) = false := by simp [bne, ei]
     have E3 := Hid.intro h3
     have EI := Hid.intro him
     clear hSN hen h3 him
     have hx1 : Blk gN #[.int .i64 (T.live + 1), .int .i64 T.ready, .int .i64 T.old, .int .i64 T.failed, .int .i64 T.ending] 94 (W'.setCell ⟨gN, 0, none⟩ (.int .i64 (T.live + 1))) := H1.out.set 0 (.int .i64 (T.live + 1))
     have hb1 : Blk Bx #[.string c.service, .int .i64 c.number, .int .i64 c.version, .int .i64 c.image, .int .i64 c.state, .bool c.ending, .string c.berth] 87 (W'.setCell ⟨gN, 0, none⟩ (.int .i64 (T.live + 1))) := HX.out.other (a := ⟨gN, 0, none⟩) hbg _
     have hs1 : Blk w.heap.size #[.string v.name, .int .i64 v.version, .bool v.gone, .int .i64 v.image, .int .i64 v.want, .int .i64 v.down, .int .i64 v.over, .int .i64 v.next, .int .i64 v.per, .int .i64 v.least, .int .i64 v.most, .int .i64 v.load, .int .i64 v.cool] 50 (W'.setCell ⟨gN, 0, none⟩ (.int .i64 (T.live + 1))) := H2.out.other (a := ⟨gN, 0, none⟩) hsg _
     have hx2 : Blk gN #[.int .i64 (T.live + 1), .int .i64 (T.ready + 1), .int .i64 T.old, .int .i64 T.failed, .int .i64 T.ending] 94 ((W'.setCell ⟨gN, 0, none⟩ (.int .i64 (T.live + 1))).setCell ⟨gN, 1, none⟩ (.int .i64 (T.ready + 1))) := hx1.set 1 (.int .i64 (T.ready + 1))
     have hb2 : Blk Bx #[.string c.service, .int .i64 c.number, .int .i64 c.version, .int .i64 c.image, .int .i64 c.state, .bool c.ending, .string c.berth] 87 ((W'.setCell ⟨gN, 0, none⟩ (.int .i64 (T.live + 1))).setCell ⟨gN, 1, none⟩ (.int .i64 (T.ready + 1))) := hb1.other (a := ⟨gN, 1, none⟩) hbg _
     have hs2 : Blk w.heap.size #[.string v.name, .int .i64 v.version, .bool v.gone, .int .i64 v.image, .int .i64 v.want, .int .i64 v.down, .int .i64 v.over, .int .i64 v.next, .int .i64 v.per, .int .i64 v.least, .int .i64 v.most, .int .i64 v.load, .int .i64 v.cool] 50 ((W'.setCell ⟨gN, 0, none⟩ (.int .i64 (T.live + 1))).setCell ⟨gN, 1, none⟩ (.int .i64 (T.ready + 1))) := hs1.other (a := ⟨gN, 1, none⟩) hsg _
     have o0_0 : W'.cell? ⟨gN, 0, none⟩ = some (.int .i64 T.live) := H1.out.cell rfl
     have f0_0 : W'.frozen? ⟨gN, 0, none⟩ = false := H1.out.frozen 0
     have o0_1 : W'.cell? ⟨gN, 1, none⟩ = some (.int .i64 T.ready) := H1.out.cell rfl
     have f0_1 : W'.frozen? ⟨gN, 1, none⟩ = false := H1.out.frozen 1
     have o0_2 : W'.cell? ⟨gN, 2, none⟩ = some (.int .i64 T.old) := H1.out.cell rfl
     have f0_2 : W'.frozen? ⟨gN, 2, none⟩ = false := H1.out.frozen 2
     have o0_3 : W'.cell? ⟨gN, 3, none⟩ = some (.int .i64 T.failed) := H1.out.cell rfl
     have f0_3 : W'.frozen? ⟨gN, 3, none⟩ = false := H1.out.frozen 3
     have o0_4 : W'.cell? ⟨gN, 4, none⟩ = some (.int .i64 T.ending) := H1.out.cell rfl
     have f0_4 : W'.frozen? ⟨gN, 4, none⟩ = false := H1.out.frozen 4
     have c0_3 : W'.cell? ⟨Bx, 3, none⟩ = some (.int .i64 c.image) := HX.out.cell rfl
     have c0_4 : W'.cell? ⟨Bx, 4, none⟩ = some (.int .i64 c.state) := HX.out.cell rfl
     have d0_3 : W'.cell? ⟨w.heap.size, 3, none⟩ = some (.int .i64 v.image) := H2.out.cell rfl
     have o1_0 : (W'.setCell ⟨gN, 0, none⟩ (.int .i64 (T.live + 1))).cell? ⟨gN, 0, none⟩ = some (.int .i64 (T.live + 1)) := hx1.cell rfl
     have f1_0 : (W'.setCell ⟨gN, 0, none⟩ (.int .i64 (T.live + 1))).frozen? ⟨gN, 0, none⟩ = false := hx1.frozen 0
     have o1_1 : (W'.setCell ⟨gN, 0, none⟩ (.int .i64 (T.live + 1))).cell? ⟨gN, 1, none⟩ = some (.int .i64 T.ready) := hx1.cell rfl
     have f1_1 : (W'.setCell ⟨gN, 0, none⟩ (.int .i64 (T.live + 1))).frozen? ⟨gN, 1, none⟩ = false := hx1.frozen 1
     have o1_2 : (W'.setCell ⟨gN, 0, none⟩ (.int .i64 (T.live + 1))).cell? ⟨gN, 2, none⟩ = some (.int .i64 T.old) := hx1.cell rfl
     have f1_2 : (W'.setCell ⟨gN, 0, none⟩ (.int .i64 (T.live + 1))).frozen? ⟨gN, 2, none⟩ = false := hx1.frozen 2
     have o1_3 : (W'.setCell ⟨gN, 0, none⟩ (.int .i64 (T.live + 1))).cell? ⟨gN, 3, none⟩ = some (.int .i64 T.failed) := hx1.cell rfl
     have f1_3 : (W'.setCell ⟨gN, 0, none⟩ (.int .i64 (T.live + 1))).frozen? ⟨gN, 3, none⟩ = false := hx1.frozen 3
     have o1_4 : (W'.setCell ⟨gN, 0, none⟩ (.int .i64 (T.live + 1))).cell? ⟨gN, 4, none⟩ = some (.int .i64 T.ending) := hx1.cell rfl
     have f1_4 : (W'.setCell ⟨gN, 0, none⟩ (.int .i64 (T.live + 1))).frozen? ⟨gN, 4, none⟩ = false := hx1.frozen 4
     have c1_3 : (W'.setCell ⟨gN, 0, none⟩ (.int .i64 (T.live + 1))).cell? ⟨Bx, 3, none⟩ = some (.int .i64 c.image) := hb1.cell rfl
     have c1_4 : (W'.setCell ⟨gN, 0, none⟩ (.int .i64 (T.live + 1))).cell? ⟨Bx, 4, none⟩ = some (.int .i64 c.state) := hb1.cell rfl
     have d1_3 : (W'.setCell ⟨gN, 0, none⟩ (.int .i64 (T.live + 1))).cell? ⟨w.heap.size, 3, none⟩ = some (.int .i64 v.image) := hs1.cell rfl
     have o2_0 : ((W'.setCell ⟨gN, 0, none⟩ (.int .i64 (T.live + 1))).setCell ⟨gN, 1, none⟩ (.int .i64 (T.ready + 1))).cell? ⟨gN, 0, none⟩ = some (.int .i64 (T.live + 1)) := hx2.cell rfl
     have f2_0 : ((W'.setCell ⟨gN, 0, none⟩ (.int .i64 (T.live + 1))).setCell ⟨gN, 1, none⟩ (.int .i64 (T.ready + 1))).frozen? ⟨gN, 0, none⟩ = false := hx2.frozen 0
     have o2_1 : ((W'.setCell ⟨gN, 0, none⟩ (.int .i64 (T.live + 1))).setCell ⟨gN, 1, none⟩ (.int .i64 (T.ready + 1))).cell? ⟨gN, 1, none⟩ = some (.int .i64 (T.ready + 1)) := hx2.cell rfl
     have f2_1 : ((W'.setCell ⟨gN, 0, none⟩ (.int .i64 (T.live + 1))).setCell ⟨gN, 1, none⟩ (.int .i64 (T.ready + 1))).frozen? ⟨gN, 1, none⟩ = false := hx2.frozen 1
     have o2_2 : ((W'.setCell ⟨gN, 0, none⟩ (.int .i64 (T.live + 1))).setCell ⟨gN, 1, none⟩ (.int .i64 (T.ready + 1))).cell? ⟨gN, 2, none⟩ = some (.int .i64 T.old) := hx2.cell rfl
     have f2_2 : ((W'.setCell ⟨gN, 0, none⟩ (.int .i64 (T.live + 1))).setCell ⟨gN, 1, none⟩ (.int .i64 (T.ready + 1))).frozen? ⟨gN, 2, none⟩ = false := hx2.frozen 2
     have o2_3 : ((W'.setCell ⟨gN, 0, none⟩ (.int .i64 (T.live + 1))).setCell ⟨gN, 1, none⟩ (.int .i64 (T.ready + 1))).cell? ⟨gN, 3, none⟩ = some (.int .i64 T.failed) := hx2.cell rfl
     have f2_3 : ((W'.setCell ⟨gN, 0, none⟩ (.int .i64 (T.live + 1))).setCell ⟨gN, 1, none⟩ (.int .i64 (T.ready + 1))).frozen? ⟨gN, 3, none⟩ = false := hx2.frozen 3
     have o2_4 : ((W'.setCell ⟨gN, 0, none⟩ (.int .i64 (T.live + 1))).setCell ⟨gN, 1, none⟩ (.int .i64 (T.ready + 1))).cell? ⟨gN, 4, none⟩ = some (.int .i64 T.ending) := hx2.cell rfl
     have f2_4 : ((W'.setCell ⟨gN, 0, none⟩ (.int .i64 (T.live + 1))).setCell ⟨gN, 1, none⟩ (.int .i64 (T.ready + 1))).frozen? ⟨gN, 4, none⟩ = false := hx2.frozen 4
     have c2_3 : ((W'.setCell ⟨gN, 0, none⟩ (.int .i64 (T.live + 1))).setCell ⟨gN, 1, none⟩ (.int .i64 (T.ready + 1))).cell? ⟨Bx, 3, none⟩ = some (.int .i64 c.image) := hb2.cell rfl
     have c2_4 : ((W'.setCell ⟨gN, 0, none⟩ (.int .i64 (T.live + 1))).setCell ⟨gN, 1, none⟩ (.int .i64 (T.ready + 1))).cell? ⟨Bx, 4, none⟩ = some (.int .i64 c.state) := hb2.cell rfl
     have d2_3 : ((W'.setCell ⟨gN, 0, none⟩ (.int .i64 (T.live + 1))).setCell ⟨gN, 1, none⟩ (.int .i64 (T.ready + 1))).cell? ⟨w.heap.size, 3, none⟩ = some (.int .i64 v.image) := hs2.cell rfl
     have HZZ := Hid.intro hx2
     have HSS := Hid.intro hs2
     clear hx1 hb1 hs1 hx2 hb2 hs2
     gi_wp2
     refine ⟨((KeepsOthers.setCell _ _ _).trans (KeepsOthers.setCell _ _ _)).from _, (((But.refl gN w6.heap.size W').set 0 _).set 1 _), ?_, HSS.out, ((H3.out.other (a := ⟨gN, 0, none⟩) hrg _).other (a := ⟨gN, 1, none⟩) hrg _), ((H4.out.setCell (p := ⟨gN, 0, none⟩) (by show w.heap.size ≤ gN; omega) _).setCell (p := ⟨gN, 1, none⟩) (by show w.heap.size ≤ gN; omega) _), by simp [World.setCell]; exact H5.out⟩
     rw [HSN.out]
     exact HZZ.out
    ·skip
     have h4 : ¬ c.state = 4 := by omega
     have HSN : Hid (ctA (cqL v.image (pre ++ [c])) = #[.int .i64 (T.live + 1), .int .i64 (T.ready + 1), .int .i64 (T.old + 1), .int .i64 T.failed, .int .i64 T.ending]) := by show _ = _; rw [hSN]; unfold stq; rw [if_neg (by rw [hen]; simp), if_pos h3, if_neg him, if_neg h4]; rfl
     have e3 : (c.state == 3) = true := by simpa using h3
     have e4 : (c.state == 4) = false := by simpa using h4
     have ei : (c.image == v.image) = false := by simpa using him
     have en : (c.image != v.image) = true := by simp [bne, ei]
     have E3 := Hid.intro h3
     clear hSN hen h3
     have hx1 : Blk gN #[.int .i64 (T.live + 1), .int .i64 T.ready, .int .i64 T.old, .int .i64 T.failed, .int .i64 T.ending] 94 (W'.setCell ⟨gN, 0, none⟩ (.int .i64 (T.live + 1))) := H1.out.set 0 (.int .i64 (T.live + 1))
     have hb1 : Blk Bx #[.string c.service, .int .i64 c.number, .int .i64 c.version, .int .i64 c.image, .int .i64 c.state, .bool c.ending, .string c.berth] 87 (W'.setCell ⟨gN, 0, none⟩ (.int .i64 (T.live + 1))) := HX.out.other (a := ⟨gN, 0, none⟩) hbg _
     have hs1 : Blk w.heap.size #[.string v.name, .int .i64 v.version, .bool v.gone, .int .i64 v.image, .int .i64 v.want, .int .i64 v.down, .int .i64 v.over, .int .i64 v.next, .int .i64 v.per, .int .i64 v.least, .int .i64 v.most, .int .i64 v.load, .int .i64 v.cool] 50 (W'.setCell ⟨gN, 0, none⟩ (.int .i64 (T.live + 1))) := H2.out.other (a := ⟨gN, 0, none⟩) hsg _
     have hx2 : Blk gN #[.int .i64 (T.live + 1), .int .i64 (T.ready + 1), .int .i64 T.old, .int .i64 T.failed, .int .i64 T.ending] 94 ((W'.setCell ⟨gN, 0, none⟩ (.int .i64 (T.live + 1))).setCell ⟨gN, 1, none⟩ (.int .i64 (T.ready + 1))) := hx1.set 1 (.int .i64 (T.ready + 1))
     have hb2 : Blk Bx #[.string c.service, .int .i64 c.number, .int .i64 c.version, .int .i64 c.image, .int .i64 c.state, .bool c.ending, .string c.berth] 87 ((W'.setCell ⟨gN, 0, none⟩ (.int .i64 (T.live + 1))).setCell ⟨gN, 1, none⟩ (.int .i64 (T.ready + 1))) := hb1.other (a := ⟨gN, 1, none⟩) hbg _
     have hs2 : Blk w.heap.size #[.string v.name, .int .i64 v.version, .bool v.gone, .int .i64 v.image, .int .i64 v.want, .int .i64 v.down, .int .i64 v.over, .int .i64 v.next, .int .i64 v.per, .int .i64 v.least, .int .i64 v.most, .int .i64 v.load, .int .i64 v.cool] 50 ((W'.setCell ⟨gN, 0, none⟩ (.int .i64 (T.live + 1))).setCell ⟨gN, 1, none⟩ (.int .i64 (T.ready + 1))) := hs1.other (a := ⟨gN, 1, none⟩) hsg _
     have hx3 : Blk gN #[.int .i64 (T.live + 1), .int .i64 (T.ready + 1), .int .i64 (T.old + 1), .int .i64 T.failed, .int .i64 T.ending] 94 (((W'.setCell ⟨gN, 0, none⟩ (.int .i64 (T.live + 1))).setCell ⟨gN, 1, none⟩ (.int .i64 (T.ready + 1))).setCell ⟨gN, 2, none⟩ (.int .i64 (T.old + 1))) := hx2.set 2 (.int .i64 (T.old + 1))
     have hb3 : Blk Bx #[.string c.service, .int .i64 c.number, .int .i64 c.version, .int .i64 c.image, .int .i64 c.state, .bool c.ending, .string c.berth] 87 (((W'.setCell ⟨gN, 0, none⟩ (.int .i64 (T.live + 1))).setCell ⟨gN, 1, none⟩ (.int .i64 (T.ready + 1))).setCell ⟨gN, 2, none⟩ (.int .i64 (T.old + 1))) := hb2.other (a := ⟨gN, 2, none⟩) hbg _
     have hs3 : Blk w.heap.size #[.string v.name, .int .i64 v.version, .bool v.gone, .int .i64 v.image, .int .i64 v.want, .int .i64 v.down, .int .i64 v.over, .int .i64 v.next, .int .i64 v.per, .int .i64 v.least, .int .i64 v.most, .int .i64 v.load, .int .i64 v.cool] 50 (((W'.setCell ⟨gN, 0, none⟩ (.int .i64 (T.live + 1))).setCell ⟨gN, 1, none⟩ (.int .i64 (T.ready + 1))).setCell ⟨gN, 2, none⟩ (.int .i64 (T.old + 1))) := hs2.other (a := ⟨gN, 2, none⟩) hsg _
     have o0_0 : W'.cell? ⟨gN, 0, none⟩ = some (.int .i64 T.live) := H1.out.cell rfl
     have f0_0 : W'.frozen? ⟨gN, 0, none⟩ = false := H1.out.frozen 0
     have o0_1 : W'.cell? ⟨gN, 1, none⟩ = some (.int .i64 T.ready) := H1.out.cell rfl
     have f0_1 : W'.frozen? ⟨gN, 1, none⟩ = false := H1.out.frozen 1
     have o0_2 : W'.cell? ⟨gN, 2, none⟩ = some (.int .i64 T.old) := H1.out.cell rfl
     have f0_2 : W'.frozen? ⟨gN, 2, none⟩ = false := H1.out.frozen 2
     have o0_3 : W'.cell? ⟨gN, 3, none⟩ = some (.int .i64 T.failed) := H1.out.cell rfl
     have f0_3 : W'.frozen? ⟨gN, 3, none⟩ = false := H1.out.frozen 3
     have o0_4 : W'.cell? ⟨gN, 4, none⟩ = some (.int .i64 T.ending) := H1.out.cell rfl
     have f0_4 : W'.frozen? ⟨gN, 4, none⟩ = false := H1.out.frozen 4
     have c0_3 : W'.cell? ⟨Bx, 3, none⟩ = some (.int .i64 c.image) := HX.out.cell rfl
     have c0_4 : W'.cell? ⟨Bx, 4, none⟩ = some (.int .i64 c.state) := HX.out.cell rfl
     have d0_3 : W'.cell? ⟨w.heap.size, 3, none⟩ = some (.int .i64 v.image) := H2.out.cell rfl
     have o1_0 : (W'.setCell ⟨gN, 0, none⟩ (.int .i64 (T.live + 1))).cell? ⟨gN, 0, none⟩ = some (.int .i64 (T.live + 1)) := hx1.cell rfl
     have f1_0 : (W'.setCell ⟨gN, 0, none⟩ (.int .i64 (T.live + 1))).frozen? ⟨gN, 0, none⟩ = false := hx1.frozen 0
     have o1_1 : (W'.setCell ⟨gN, 0, none⟩ (.int .i64 (T.live + 1))).cell? ⟨gN, 1, none⟩ = some (.int .i64 T.ready) := hx1.cell rfl
     have f1_1 : (W'.setCell ⟨gN, 0, none⟩ (.int .i64 (T.live + 1))).frozen? ⟨gN, 1, none⟩ = false := hx1.frozen 1
     have o1_2 : (W'.setCell ⟨gN, 0, none⟩ (.int .i64 (T.live + 1))).cell? ⟨gN, 2, none⟩ = some (.int .i64 T.old) := hx1.cell rfl
     have f1_2 : (W'.setCell ⟨gN, 0, none⟩ (.int .i64 (T.live + 1))).frozen? ⟨gN, 2, none⟩ = false := hx1.frozen 2
     have o1_3 : (W'.setCell ⟨gN, 0, none⟩ (.int .i64 (T.live + 1))).cell? ⟨gN, 3, none⟩ = some (.int .i64 T.failed) := hx1.cell rfl
     have f1_3 : (W'.setCell ⟨gN, 0, none⟩ (.int .i64 (T.live + 1))).frozen? ⟨gN, 3, none⟩ = false := hx1.frozen 3
     have o1_4 : (W'.setCell ⟨gN, 0, none⟩ (.int .i64 (T.live + 1))).cell? ⟨gN, 4, none⟩ = some (.int .i64 T.ending) := hx1.cell rfl
     have f1_4 : (W'.setCell ⟨gN, 0, none⟩ (.int .i64 (T.live + 1))).frozen? ⟨gN, 4, none⟩ = false := hx1.frozen 4
     have c1_3 : (W'.setCell ⟨gN, 0, none⟩ (.int .i64 (T.live + 1))).cell? ⟨Bx, 3, none⟩ = some (.int .i64 c.image) := hb1.cell rfl
     have c1_4 : (W'.setCell ⟨gN, 0, none⟩ (.int .i64 (T.live + 1))).cell? ⟨Bx, 4, none⟩ = some (.int .i64 c.state) := hb1.cell rfl
     have d1_3 : (W'.setCell ⟨gN, 0, none⟩ (.int .i64 (T.live + 1))).cell? ⟨w.heap.size, 3, none⟩ = some (.int .i64 v.image) := hs1.cell rfl
     have o2_0 : ((W'.setCell ⟨gN, 0, none⟩ (.int .i64 (T.live + 1))).setCell ⟨gN, 1, none⟩ (.int .i64 (T.ready + 1))).cell? ⟨gN, 0, none⟩ = some (.int .i64 (T.live + 1)) := hx2.cell rfl
     have f2_0 : ((W'.setCell ⟨gN, 0, none⟩ (.int .i64 (T.live + 1))).setCell ⟨gN, 1, none⟩ (.int .i64 (T.ready + 1))).frozen? ⟨gN, 0, none⟩ = false := hx2.frozen 0
     have o2_1 : ((W'.setCell ⟨gN, 0, none⟩ (.int .i64 (T.live + 1))).setCell ⟨gN, 1, none⟩ (.int .i64 (T.ready + 1))).cell? ⟨gN, 1, none⟩ = some (.int .i64 (T.ready + 1)) := hx2.cell rfl
     have f2_1 : ((W'.setCell ⟨gN, 0, none⟩ (.int .i64 (T.live + 1))).setCell ⟨gN, 1, none⟩ (.int .i64 (T.ready + 1))).frozen? ⟨gN, 1, none⟩ = false := hx2.frozen 1
     have o2_2 : ((W'.setCell ⟨gN, 0, none⟩ (.int .i64 (T.live + 1))).setCell ⟨gN, 1, none⟩ (.int .i64 (T.ready + 1))).cell? ⟨gN, 2, none⟩ = some (.int .i64 T.old) := hx2.cell rfl
     have f2_2 : ((W'.setCell ⟨gN, 0, none⟩ (.int .i64 (T.live + 1))).setCell ⟨gN, 1, none⟩ (.int .i64 (T.ready + 1))).frozen? ⟨gN, 2, none⟩ = false := hx2.frozen 2
     have o2_3 : ((W'.setCell ⟨gN, 0, none⟩ (.int .i64 (T.live + 1))).setCell ⟨gN, 1, none⟩ (.int .i64 (T.ready + 1))).cell? ⟨gN, 3, none⟩ = some (.int .i64 T.failed) := hx2.cell rfl
     have f2_3 : ((W'.setCell ⟨gN, 0, none⟩ (.int .i64 (T.live + 1))).setCell ⟨gN, 1, none⟩ (.int .i64 (T.ready + 1))).frozen? ⟨gN, 3, none⟩ = false := hx2.frozen 3
     have o2_4 : ((W'.setCell ⟨gN, 0, none⟩ (.int .i64 (T.live + 1))).setCell ⟨gN, 1, none⟩ (.int .i64 (T.ready + 1))).cell? ⟨gN, 4, none⟩ = some (.int .i64 T.ending) := hx2.cell rfl
     have f2_4 : ((W'.setCell ⟨gN, 0, none⟩ (.int .i64 (T.live + 1))).setCell ⟨gN, 1, none⟩ (.int .i64 (T.ready + 1))).frozen? ⟨gN, 4, none⟩ = false := hx2.frozen 4
     have c2_3 : ((W'.setCell ⟨gN, 0, none⟩ (.int .i64 (T.live + 1))).setCell ⟨gN, 1, none⟩ (.int .i64 (T.ready + 1))).cell? ⟨Bx, 3, none⟩ = some (.int .i64 c.image) := hb2.cell rfl
     have c2_4 : ((W'.setCell ⟨gN, 0, none⟩ (.int .i64 (T.live + 1))).setCell ⟨gN, 1, none⟩ (.int .i64 (T.ready + 1))).cell? ⟨Bx, 4, none⟩ = some (.int .i64 c.state) := hb2.cell rfl
     have d2_3 : ((W'.setCell ⟨gN, 0, none⟩ (.int .i64 (T.live + 1))).setCell ⟨gN, 1, none⟩ (.int .i64 (T.ready + 1))).cell? ⟨w.heap.size, 3, none⟩ = some (.int .i64 v.image) := hs2.cell rfl
     have o3_0 : (((W'.setCell ⟨gN, 0, none⟩ (.int .i64 (T.live + 1))).setCell ⟨gN, 1, none⟩ (.int .i64 (T.ready + 1))).setCell ⟨gN, 2, none⟩ (.int .i64 (T.old + 1))).cell? ⟨gN, 0, none⟩ = some (.int .i64 (T.live + 1)) := hx3.cell rfl
     have f3_0 : (((W'.setCell ⟨gN, 0, none⟩ (.int .i64 (T.live + 1))).setCell ⟨gN, 1, none⟩ (.int .i64 (T.ready + 1))).setCell ⟨gN, 2, none⟩ (.int .i64 (T.old + 1))).frozen? ⟨gN, 0, none⟩ = false := hx3.frozen 0
     have o3_1 : (((W'.setCell ⟨gN, 0, none⟩ (.int .i64 (T.live + 1))).setCell ⟨gN, 1, none⟩ (.int .i64 (T.ready + 1))).setCell ⟨gN, 2, none⟩ (.int .i64 (T.old + 1))).cell? ⟨gN, 1, none⟩ = some (.int .i64 (T.ready + 1)) := hx3.cell rfl
     have f3_1 : (((W'.setCell ⟨gN, 0, none⟩ (.int .i64 (T.live + 1))).setCell ⟨gN, 1, none⟩ (.int .i64 (T.ready + 1))).setCell ⟨gN, 2, none⟩ (.int .i64 (T.old + 1))).frozen? ⟨gN, 1, none⟩ = false := hx3.frozen 1
     have o3_2 : (((W'.setCell ⟨gN, 0, none⟩ (.int .i64 (T.live + 1))).setCell ⟨gN, 1, none⟩ (.int .i64 (T.ready + 1))).setCell ⟨gN, 2, none⟩ (.int .i64 (T.old + 1))).cell? ⟨gN, 2, none⟩ = some (.int .i64 (T.old + 1)) := hx3.cell rfl
     have f3_2 : (((W'.setCell ⟨gN, 0, none⟩ (.int .i64 (T.live + 1))).setCell ⟨gN, 1, none⟩ (.int .i64 (T.ready + 1))).setCell ⟨gN, 2, none⟩ (.int .i64 (T.old + 1))).frozen? ⟨gN, 2, none⟩ = false := hx3.frozen 2
     have o3_3 : (((W'.setCell ⟨gN, 0, none⟩ (.int .i64 (T.live + 1))).setCell ⟨gN, 1, none⟩ (.int .i64 (T.ready + 1))).setCell ⟨gN, 2, none⟩ (.int .i64 (T.old + 1))).cell? ⟨gN, 3, none⟩ = some (.int .i64 T.failed) := hx3.cell rfl
     have f3_3 : (((W'.setCell ⟨gN, 0, none⟩ (.int .i64 (T.live + 1))).setCell ⟨gN, 1, none⟩ (.int .i64 (T.ready + 1))).setCell ⟨gN, 2, none⟩ (.int .i64 (T.old + 1))).frozen? ⟨gN, 3, none⟩ = false := hx3.frozen 3
     have o3_4 : (((W'.setCell ⟨gN, 0, none⟩ (.int .i64 (T.live + 1))).setCell ⟨gN, 1, none⟩ (.int .i64 (T.ready + 1))).setCell ⟨gN, 2, none⟩ (.int .i64 (T.old + 1))).cell? ⟨gN, 4, none⟩ = some (.int .i64 T.ending) := hx3.cell rfl
     have f3_4 : (((W'.setCell ⟨gN, 0, none⟩ (.int .i64 (T.live + 1))).setCell ⟨gN, 1, none⟩ (.int .i64 (T.ready + 1))).setCell ⟨gN, 2, none⟩ (.int .i64 (T.old + 1))).frozen? ⟨gN, 4, none⟩ = false := hx3.frozen 4
     have c3_3 : (((W'.setCell ⟨gN, 0, none⟩ (.int .i64 (T.live + 1))).setCell ⟨gN, 1, none⟩ (.int .i64 (T.ready + 1))).setCell ⟨gN, 2, none⟩ (.int .i64 (T.old + 1))).cell? ⟨Bx, 3, none⟩ = some (.int .i64 c.image) := hb3.cell rfl
     have c3_4 : (((W'.setCell ⟨gN, 0, none⟩ (.int .i64 (T.live + 1))).setCell ⟨gN, 1, none⟩ (.int .i64 (T.ready + 1))).setCell ⟨gN, 2, none⟩ (.int .i64 (T.old + 1))).cell? ⟨Bx, 4, none⟩ = some (.int .i64 c.state) := hb3.cell rfl
     have d3_3 : (((W'.setCell ⟨gN, 0, none⟩ (.int .i64 (T.live + 1))).setCell ⟨gN, 1, none⟩ (.int .i64 (T.ready + 1))).setCell ⟨gN, 2, none⟩ (.int .i64 (T.old + 1))).cell? ⟨w.heap.size, 3, none⟩ = some (.int .i64 v.image) := hs3.cell rfl
     have HZZ := Hid.intro hx3
     have HSS := Hid.intro hs3
     clear hx1 hb1 hs1 hx2 hb2 hs2 hx3 hb3 hs3
     gi_wp2
     refine ⟨(((KeepsOthers.setCell _ _ _).trans (KeepsOthers.setCell _ _ _)).trans (KeepsOthers.setCell _ _ _)).from _, ((((But.refl gN w6.heap.size W').set 0 _).set 1 _).set 2 _), ?_, HSS.out, (((H3.out.other (a := ⟨gN, 0, none⟩) hrg _).other (a := ⟨gN, 1, none⟩) hrg _).other (a := ⟨gN, 2, none⟩) hrg _), (((H4.out.setCell (p := ⟨gN, 0, none⟩) (by show w.heap.size ≤ gN; omega) _).setCell (p := ⟨gN, 1, none⟩) (by show w.heap.size ≤ gN; omega) _).setCell (p := ⟨gN, 2, none⟩) (by show w.heap.size ≤ gN; omega) _), by simp [World.setCell]; exact H5.out⟩
     rw [HSN.out]
     exact HZZ.out
   ·skip
    by_cases him : c.image = v.image
    ·skip
     by_cases h4 : c.state = 4
     ·skip
      have HSN : Hid (ctA (cqL v.image (pre ++ [c])) = #[.int .i64 (T.live + 1), .int .i64 T.ready, .int .i64 T.old, .int .i64 (T.failed + 1), .int .i64 T.ending]) := by show _ = _; rw [hSN]; unfold stq; rw [if_neg (by rw [hen]; simp), if_neg h3, if_pos him, if_pos h4]; rfl
      have e3 : (c.state == 3) = false := by simpa using h3
      have e4 : (c.state == 4) = true := by simpa using h4
      have ei : (c.image == v.image) = true := by simpa using him
      have en : (c.image != v.image) = false := by simp [bne, ei]
      have EI := Hid.intro him
      have E4 := Hid.intro h4
      clear hSN hen him h4
      have hx1 : Blk gN #[.int .i64 (T.live + 1), .int .i64 T.ready, .int .i64 T.old, .int .i64 T.failed, .int .i64 T.ending] 94 (W'.setCell ⟨gN, 0, none⟩ (.int .i64 (T.live + 1))) := H1.out.set 0 (.int .i64 (T.live + 1))
      have hb1 : Blk Bx #[.string c.service, .int .i64 c.number, .int .i64 c.version, .int .i64 c.image, .int .i64 c.state, .bool c.ending, .string c.berth] 87 (W'.setCell ⟨gN, 0, none⟩ (.int .i64 (T.live + 1))) := HX.out.other (a := ⟨gN, 0, none⟩) hbg _
      have hs1 : Blk w.heap.size #[.string v.name, .int .i64 v.version, .bool v.gone, .int .i64 v.image, .int .i64 v.want, .int .i64 v.down, .int .i64 v.over, .int .i64 v.next, .int .i64 v.per, .int .i64 v.least, .int .i64 v.most, .int .i64 v.load, .int .i64 v.cool] 50 (W'.setCell ⟨gN, 0, none⟩ (.int .i64 (T.live + 1))) := H2.out.other (a := ⟨gN, 0, none⟩) hsg _
      have hx2 : Blk gN #[.int .i64 (T.live + 1), .int .i64 T.ready, .int .i64 T.old, .int .i64 (T.failed + 1), .int .i64 T.ending] 94 ((W'.setCell ⟨gN, 0, none⟩ (.int .i64 (T.live + 1))).setCell ⟨gN, 3, none⟩ (.int .i64 (T.failed + 1))) := hx1.set 3 (.int .i64 (T.failed + 1))
      have hb2 : Blk Bx #[.string c.service, .int .i64 c.number, .int .i64 c.version, .int .i64 c.image, .int .i64 c.state, .bool c.ending, .string c.berth] 87 ((W'.setCell ⟨gN, 0, none⟩ (.int .i64 (T.live + 1))).setCell ⟨gN, 3, none⟩ (.int .i64 (T.failed + 1))) := hb1.other (a := ⟨gN, 3, none⟩) hbg _
      have hs2 : Blk w.heap.size #[.string v.name, .int .i64 v.version, .bool v.gone, .int .i64 v.image, .int .i64 v.want, .int .i64 v.down, .int .i64 v.over, .int .i64 v.next, .int .i64 v.per, .int .i64 v.least, .int .i64 v.most, .int .i64 v.load, .int .i64 v.cool] 50 ((W'.setCell ⟨gN, 0, none⟩ (.int .i64 (T.live + 1))).setCell ⟨gN, 3, none⟩ (.int .i64 (T.failed + 1))) := hs1.other (a := ⟨gN, 3, none⟩) hsg _
      have o0_0 : W'.cell? ⟨gN, 0, none⟩ = some (.int .i64 T.live) := H1.out.cell rfl
      have f0_0 : W'.frozen? ⟨gN, 0, none⟩ = false := H1.out.frozen 0
      have o0_1 : W'.cell? ⟨gN, 1, none⟩ = some (.int .i64 T.ready) := H1.out.cell rfl
      have f0_1 : W'.frozen? ⟨gN, 1, none⟩ = false := H1.out.frozen 1
      have o0_2 : W'.cell? ⟨gN, 2, none⟩ = some (.int .i64 T.old) := H1.out.cell rfl
      have f0_2 : W'.frozen? ⟨gN, 2, none⟩ = false := H1.out.frozen 2
      have o0_3 : W'.cell? ⟨gN, 3, none⟩ = some (.int .i64 T.failed) := H1.out.cell rfl
      have f0_3 : W'.frozen? ⟨gN, 3, none⟩ = false := H1.out.frozen 3
      have o0_4 : W'.cell? ⟨gN, 4, none⟩ = some (.int .i64 T.ending) := H1.out.cell rfl
      have f0_4 : W'.frozen? ⟨gN, 4, none⟩ = false := H1.out.frozen 4
      have c0_3 : W'.cell? ⟨Bx, 3, none⟩ = some (.int .i64 c.image) := HX.out.cell rfl
      have c0_4 : W'.cell? ⟨Bx, 4, none⟩ = some (.int .i64 c.state) := HX.out.cell rfl
      have d0_3 : W'.cell? ⟨w.heap.size, 3, none⟩ = some (.int .i64 v.image) := H2.out.cell rfl
      have o1_0 : (W'.setCell ⟨gN, 0, none⟩ (.int .i64 (T.live + 1))).cell? ⟨gN, 0, none⟩ = some (.int .i64 (T.live + 1)) := hx1.cell rfl
      have f1_0 : (W'.setCell ⟨gN, 0, none⟩ (.int .i64 (T.live + 1))).frozen? ⟨gN, 0, none⟩ = false := hx1.frozen 0
      have o1_1 : (W'.setCell ⟨gN, 0, none⟩ (.int .i64 (T.live + 1))).cell? ⟨gN, 1, none⟩ = some (.int .i64 T.ready) := hx1.cell rfl
      have f1_1 : (W'.setCell ⟨gN, 0, none⟩ (.int .i64 (T.live + 1))).frozen? ⟨gN, 1, none⟩ = false := hx1.frozen 1
      have o1_2 : (W'.setCell ⟨gN, 0, none⟩ (.int .i64 (T.live + 1))).cell? ⟨gN, 2, none⟩ = some (.int .i64 T.old) := hx1.cell rfl
      have f1_2 : (W'.setCell ⟨gN, 0, none⟩ (.int .i64 (T.live + 1))).frozen? ⟨gN, 2, none⟩ = false := hx1.frozen 2
      have o1_3 : (W'.setCell ⟨gN, 0, none⟩ (.int .i64 (T.live + 1))).cell? ⟨gN, 3, none⟩ = some (.int .i64 T.failed) := hx1.cell rfl
      have f1_3 : (W'.setCell ⟨gN, 0, none⟩ (.int .i64 (T.live + 1))).frozen? ⟨gN, 3, none⟩ = false := hx1.frozen 3
      have o1_4 : (W'.setCell ⟨gN, 0, none⟩ (.int .i64 (T.live + 1))).cell? ⟨gN, 4, none⟩ = some (.int .i64 T.ending) := hx1.cell rfl
      have f1_4 : (W'.setCell ⟨gN, 0, none⟩ (.int .i64 (T.live + 1))).frozen? ⟨gN, 4, none⟩ = false := hx1.frozen 4
      have c1_3 : (W'.setCell ⟨gN, 0, none⟩ (.int .i64 (T.live + 1))).cell? ⟨Bx, 3, none⟩ = some (.int .i64 c.image) := hb1.cell rfl
      have c1_4 : (W'.setCell ⟨gN, 0, none⟩ (.int .i64 (T.live + 1))).cell? ⟨Bx, 4, none⟩ = some (.int .i64 c.state) := hb1.cell rfl
      have d1_3 : (W'.setCell ⟨gN, 0, none⟩ (.int .i64 (T.live + 1))).cell? ⟨w.heap.size, 3, none⟩ = some (.int .i64 v.image) := hs1.cell rfl
      have o2_0 : ((W'.setCell ⟨gN, 0, none⟩ (.int .i64 (T.live + 1))).setCell ⟨gN, 3, none⟩ (.int .i64 (T.failed + 1))).cell? ⟨gN, 0, none⟩ = some (.int .i64 (T.live + 1)) := hx2.cell rfl
      have f2_0 : ((W'.setCell ⟨gN, 0, none⟩ (.int .i64 (T.live + 1))).setCell ⟨gN, 3, none⟩ (.int .i64 (T.failed + 1))).frozen? ⟨gN, 0, none⟩ = false := hx2.frozen 0
      have o2_1 : ((W'.setCell ⟨gN, 0, none⟩ (.int .i64 (T.live + 1))).setCell ⟨gN, 3, none⟩ (.int .i64 (T.failed + 1))).cell? ⟨gN, 1, none⟩ = some (.int .i64 T.ready) := hx2.cell rfl
      have f2_1 : ((W'.setCell ⟨gN, 0, none⟩ (.int .i64 (T.live + 1))).setCell ⟨gN, 3, none⟩ (.int .i64 (T.failed + 1))).frozen? ⟨gN, 1, none⟩ = false := hx2.frozen 1
      have o2_2 : ((W'.setCell ⟨gN, 0, none⟩ (.int .i64 (T.live + 1))).setCell ⟨gN, 3, none⟩ (.int .i64 (T.failed + 1))).cell? ⟨gN, 2, none⟩ = some (.int .i64 T.old) := hx2.cell rfl
      have f2_2 : ((W'.setCell ⟨gN, 0, none⟩ (.int .i64 (T.live + 1))).setCell ⟨gN, 3, none⟩ (.int .i64 (T.failed + 1))).frozen? ⟨gN, 2, none⟩ = false := hx2.frozen 2
      have o2_3 : ((W'.setCell ⟨gN, 0, none⟩ (.int .i64 (T.live + 1))).setCell ⟨gN, 3, none⟩ (.int .i64 (T.failed + 1))).cell? ⟨gN, 3, none⟩ = some (.int .i64 (T.failed + 1)) := hx2.cell rfl
      have f2_3 : ((W'.setCell ⟨gN, 0, none⟩ (.int .i64 (T.live + 1))).setCell ⟨gN, 3, none⟩ (.int .i64 (T.failed + 1))).frozen? ⟨gN, 3, none⟩ = false := hx2.frozen 3
      have o2_4 : ((W'.setCell ⟨gN, 0, none⟩ (.int .i64 (T.live + 1))).setCell ⟨gN, 3, none⟩ (.int .i64 (T.failed + 1))).cell? ⟨gN, 4, none⟩ = some (.int .i64 T.ending) := hx2.cell rfl
      have f2_4 : ((W'.setCell ⟨gN, 0, none⟩ (.int .i64 (T.live + 1))).setCell ⟨gN, 3, none⟩ (.int .i64 (T.failed + 1))).frozen? ⟨gN, 4, none⟩ = false := hx2.frozen 4
      have c2_3 : ((W'.setCell ⟨gN, 0, none⟩ (.int .i64 (T.live + 1))).setCell ⟨gN, 3, none⟩ (.int .i64 (T.failed + 1))).cell? ⟨Bx, 3, none⟩ = some (.int .i64 c.image) := hb2.cell rfl
      have c2_4 : ((W'.setCell ⟨gN, 0, none⟩ (.int .i64 (T.live + 1))).setCell ⟨gN, 3, none⟩ (.int .i64 (T.failed + 1))).cell? ⟨Bx, 4, none⟩ = some (.int .i64 c.state) := hb2.cell rfl
      have d2_3 : ((W'.setCell ⟨gN, 0, none⟩ (.int .i64 (T.live + 1))).setCell ⟨gN, 3, none⟩ (.int .i64 (T.failed + 1))).cell? ⟨w.heap.size, 3, none⟩ = some (.int .i64 v.image) := hs2.cell rfl
      have HZZ := Hid.intro hx2
      have HSS := Hid.intro hs2
      clear hx1 hb1 hs1 hx2 hb2 hs2
      gi_wp2
      refine ⟨((KeepsOthers.setCell _ _ _).trans (KeepsOthers.setCell _ _ _)).from _, (((But.refl gN w6.heap.size W').set 0 _).set 3 _), ?_, HSS.out, ((H3.out.other (a := ⟨gN, 0, none⟩) hrg _).other (a := ⟨gN, 3, none⟩) hrg _), ((H4.out.setCell (p := ⟨gN, 0, none⟩) (by show w.heap.size ≤ gN; omega) _).setCell (p := ⟨gN, 3, none⟩) (by show w.heap.size ≤ gN; omega) _), by simp [World.setCell]; exact H5.out⟩
      rw [HSN.out]
      exact HZZ.out
     ·skip
      have HSN : Hid (ctA (cqL v.image (pre ++ [c])) = #[.int .i64 (T.live + 1), .int .i64 T.ready, .int .i64 T.old, .int .i64 T.failed, .int .i64 T.ending]) := by show _ = _; rw [hSN]; unfold stq; rw [if_neg (by rw [hen]; simp), if_neg h3, if_pos him, if_neg h4]; rfl
      have e3 : (c.state == 3) = false := by simpa using h3
      have e4 : (c.state == 4) = false := by simpa using h4
      have ei : (c.image == v.image) = true := by simpa using him
      have en : (c.image != v.image) = false := by simp [bne, ei]
      have EI := Hid.intro him
      clear hSN hen him
      have hx1 : Blk gN #[.int .i64 (T.live + 1), .int .i64 T.ready, .int .i64 T.old, .int .i64 T.failed, .int .i64 T.ending] 94 (W'.setCell ⟨gN, 0, none⟩ (.int .i64 (T.live + 1))) := H1.out.set 0 (.int .i64 (T.live + 1))
      have hb1 : Blk Bx #[.string c.service, .int .i64 c.number, .int .i64 c.version, .int .i64 c.image, .int .i64 c.state, .bool c.ending, .string c.berth] 87 (W'.setCell ⟨gN, 0, none⟩ (.int .i64 (T.live + 1))) := HX.out.other (a := ⟨gN, 0, none⟩) hbg _
      have hs1 : Blk w.heap.size #[.string v.name, .int .i64 v.version, .bool v.gone, .int .i64 v.image, .int .i64 v.want, .int .i64 v.down, .int .i64 v.over, .int .i64 v.next, .int .i64 v.per, .int .i64 v.least, .int .i64 v.most, .int .i64 v.load, .int .i64 v.cool] 50 (W'.setCell ⟨gN, 0, none⟩ (.int .i64 (T.live + 1))) := H2.out.other (a := ⟨gN, 0, none⟩) hsg _
      have o0_0 : W'.cell? ⟨gN, 0, none⟩ = some (.int .i64 T.live) := H1.out.cell rfl
      have f0_0 : W'.frozen? ⟨gN, 0, none⟩ = false := H1.out.frozen 0
      have o0_1 : W'.cell? ⟨gN, 1, none⟩ = some (.int .i64 T.ready) := H1.out.cell rfl
      have f0_1 : W'.frozen? ⟨gN, 1, none⟩ = false := H1.out.frozen 1
      have o0_2 : W'.cell? ⟨gN, 2, none⟩ = some (.int .i64 T.old) := H1.out.cell rfl
      have f0_2 : W'.frozen? ⟨gN, 2, none⟩ = false := H1.out.frozen 2
      have o0_3 : W'.cell? ⟨gN, 3, none⟩ = some (.int .i64 T.failed) := H1.out.cell rfl
      have f0_3 : W'.frozen? ⟨gN, 3, none⟩ = false := H1.out.frozen 3
      have o0_4 : W'.cell? ⟨gN, 4, none⟩ = some (.int .i64 T.ending) := H1.out.cell rfl
      have f0_4 : W'.frozen? ⟨gN, 4, none⟩ = false := H1.out.frozen 4
      have c0_3 : W'.cell? ⟨Bx, 3, none⟩ = some (.int .i64 c.image) := HX.out.cell rfl
      have c0_4 : W'.cell? ⟨Bx, 4, none⟩ = some (.int .i64 c.state) := HX.out.cell rfl
      have d0_3 : W'.cell? ⟨w.heap.size, 3, none⟩ = some (.int .i64 v.image) := H2.out.cell rfl
      have o1_0 : (W'.setCell ⟨gN, 0, none⟩ (.int .i64 (T.live + 1))).cell? ⟨gN, 0, none⟩ = some (.int .i64 (T.live + 1)) := hx1.cell rfl
      have f1_0 : (W'.setCell ⟨gN, 0, none⟩ (.int .i64 (T.live + 1))).frozen? ⟨gN, 0, none⟩ = false := hx1.frozen 0
      have o1_1 : (W'.setCell ⟨gN, 0, none⟩ (.int .i64 (T.live + 1))).cell? ⟨gN, 1, none⟩ = some (.int .i64 T.ready) := hx1.cell rfl
      have f1_1 : (W'.setCell ⟨gN, 0, none⟩ (.int .i64 (T.live + 1))).frozen? ⟨gN, 1, none⟩ = false := hx1.frozen 1
      have o1_2 : (W'.setCell ⟨gN, 0, none⟩ (.int .i64 (T.live + 1))).cell? ⟨gN, 2, none⟩ = some (.int .i64 T.old) := hx1.cell rfl
      have f1_2 : (W'.setCell ⟨gN, 0, none⟩ (.int .i64 (T.live + 1))).frozen? ⟨gN, 2, none⟩ = false := hx1.frozen 2
      have o1_3 : (W'.setCell ⟨gN, 0, none⟩ (.int .i64 (T.live + 1))).cell? ⟨gN, 3, none⟩ = some (.int .i64 T.failed) := hx1.cell rfl
      have f1_3 : (W'.setCell ⟨gN, 0, none⟩ (.int .i64 (T.live + 1))).frozen? ⟨gN, 3, none⟩ = false := hx1.frozen 3
      have o1_4 : (W'.setCell ⟨gN, 0, none⟩ (.int .i64 (T.live + 1))).cell? ⟨gN, 4, none⟩ = some (.int .i64 T.ending) := hx1.cell rfl
      have f1_4 : (W'.setCell ⟨gN, 0, none⟩ (.int .i64 (T.live + 1))).frozen? ⟨gN, 4, none⟩ = false := hx1.frozen 4
      have c1_3 : (W'.setCell ⟨gN, 0, none⟩ (.int .i64 (T.live + 1))).cell? ⟨Bx, 3, none⟩ = some (.int .i64 c.image) := hb1.cell rfl
      have c1_4 : (W'.setCell ⟨gN, 0, none⟩ (.int .i64 (T.live + 1))).cell? ⟨Bx, 4, none⟩ = some (.int .i64 c.state) := hb1.cell rfl
      have d1_3 : (W'.setCell ⟨gN, 0, none⟩ (.int .i64 (T.live + 1))).cell? ⟨w.heap.size, 3, none⟩ = some (.int .i64 v.image) := hs1.cell rfl
      have HZZ := Hid.intro hx1
      have HSS := Hid.intro hs1
      clear hx1 hb1 hs1
      gi_wp2
      refine ⟨(KeepsOthers.setCell _ _ _).from _, ((But.refl gN w6.heap.size W').set 0 _), ?_, HSS.out, (H3.out.other (a := ⟨gN, 0, none⟩) hrg _), (H4.out.setCell (p := ⟨gN, 0, none⟩) (by show w.heap.size ≤ gN; omega) _), by simp [World.setCell]; exact H5.out⟩
      rw [HSN.out]
      exact HZZ.out
    ·skip
     by_cases h4 : c.state = 4
     ·skip
      have HSN : Hid (ctA (cqL v.image (pre ++ [c])) = #[.int .i64 (T.live + 1), .int .i64 T.ready, .int .i64 (T.old + 1), .int .i64 (T.failed + 1), .int .i64 T.ending]) := by show _ = _; rw [hSN]; unfold stq; rw [if_neg (by rw [hen]; simp), if_neg h3, if_neg him, if_pos h4]; rfl
      have e3 : (c.state == 3) = false := by simpa using h3
      have e4 : (c.state == 4) = true := by simpa using h4
      have ei : (c.image == v.image) = false := by simpa using him
      have en : (c.image != v.image) = true := by simp [bne, ei]
      have E4 := Hid.intro h4
      clear hSN hen h4
      have hx1 : Blk gN #[.int .i64 (T.live + 1), .int .i64 T.ready, .int .i64 T.old, .int .i64 T.failed, .int .i64 T.ending] 94 (W'.setCell ⟨gN, 0, none⟩ (.int .i64 (T.live + 1))) := H1.out.set 0 (.int .i64 (T.live + 1))
      have hb1 : Blk Bx #[.string c.service, .int .i64 c.number, .int .i64 c.version, .int .i64 c.image, .int .i64 c.state, .bool c.ending, .string c.berth] 87 (W'.setCell ⟨gN, 0, none⟩ (.int .i64 (T.live + 1))) := HX.out.other (a := ⟨gN, 0, none⟩) hbg _
      have hs1 : Blk w.heap.size #[.string v.name, .int .i64 v.version, .bool v.gone, .int .i64 v.image, .int .i64 v.want, .int .i64 v.down, .int .i64 v.over, .int .i64 v.next, .int .i64 v.per, .int .i64 v.least, .int .i64 v.most, .int .i64 v.load, .int .i64 v.cool] 50 (W'.setCell ⟨gN, 0, none⟩ (.int .i64 (T.live + 1))) := H2.out.other (a := ⟨gN, 0, none⟩) hsg _
      have hx2 : Blk gN #[.int .i64 (T.live + 1), .int .i64 T.ready, .int .i64 (T.old + 1), .int .i64 T.failed, .int .i64 T.ending] 94 ((W'.setCell ⟨gN, 0, none⟩ (.int .i64 (T.live + 1))).setCell ⟨gN, 2, none⟩ (.int .i64 (T.old + 1))) := hx1.set 2 (.int .i64 (T.old + 1))
      have hb2 : Blk Bx #[.string c.service, .int .i64 c.number, .int .i64 c.version, .int .i64 c.image, .int .i64 c.state, .bool c.ending, .string c.berth] 87 ((W'.setCell ⟨gN, 0, none⟩ (.int .i64 (T.live + 1))).setCell ⟨gN, 2, none⟩ (.int .i64 (T.old + 1))) := hb1.other (a := ⟨gN, 2, none⟩) hbg _
      have hs2 : Blk w.heap.size #[.string v.name, .int .i64 v.version, .bool v.gone, .int .i64 v.image, .int .i64 v.want, .int .i64 v.down, .int .i64 v.over, .int .i64 v.next, .int .i64 v.per, .int .i64 v.least, .int .i64 v.most, .int .i64 v.load, .int .i64 v.cool] 50 ((W'.setCell ⟨gN, 0, none⟩ (.int .i64 (T.live + 1))).setCell ⟨gN, 2, none⟩ (.int .i64 (T.old + 1))) := hs1.other (a := ⟨gN, 2, none⟩) hsg _
      have hx3 : Blk gN #[.int .i64 (T.live + 1), .int .i64 T.ready, .int .i64 (T.old + 1), .int .i64 (T.failed + 1), .int .i64 T.ending] 94 (((W'.setCell ⟨gN, 0, none⟩ (.int .i64 (T.live + 1))).setCell ⟨gN, 2, none⟩ (.int .i64 (T.old + 1))).setCell ⟨gN, 3, none⟩ (.int .i64 (T.failed + 1))) := hx2.set 3 (.int .i64 (T.failed + 1))
      have hb3 : Blk Bx #[.string c.service, .int .i64 c.number, .int .i64 c.version, .int .i64 c.image, .int .i64 c.state, .bool c.ending, .string c.berth] 87 (((W'.setCell ⟨gN, 0, none⟩ (.int .i64 (T.live + 1))).setCell ⟨gN, 2, none⟩ (.int .i64 (T.old + 1))).setCell ⟨gN, 3, none⟩ (.int .i64 (T.failed + 1))) := hb2.other (a := ⟨gN, 3, none⟩) hbg _
      have hs3 : Blk w.heap.size #[.string v.name, .int .i64 v.version, .bool v.gone, .int .i64 v.image, .int .i64 v.want, .int .i64 v.down, .int .i64 v.over, .int .i64 v.next, .int .i64 v.per, .int .i64 v.least, .int .i64 v.most, .int .i64 v.load, .int .i64 v.cool] 50 (((W'.setCell ⟨gN, 0, none⟩ (.int .i64 (T.live + 1))).setCell ⟨gN, 2, none⟩ (.int .i64 (T.old + 1))).setCell ⟨gN, 3, none⟩ (.int .i64 (T.failed + 1))) := hs2.other (a := ⟨gN, 3, none⟩) hsg _
      have o0_0 : W'.cell? ⟨gN, 0, none⟩ = some (.int .i64 T.live) := H1.out.cell rfl
      have f0_0 : W'.frozen? ⟨gN, 0, none⟩ = false := H1.out.frozen 0
      have o0_1 : W'.cell? ⟨gN, 1, none⟩ = some (.int .i64 T.ready) := H1.out.cell rfl
      have f0_1 : W'.frozen? ⟨gN, 1, none⟩ = false := H1.out.frozen 1
      have o0_2 : W'.cell? ⟨gN, 2, none⟩ = some (.int .i64 T.old) := H1.out.cell rfl
      have f0_2 : W'.frozen? ⟨gN, 2, none⟩ = false := H1.out.frozen 2
      have o0_3 : W'.cell? ⟨gN, 3, none⟩ = some (.int .i64 T.failed) := H1.out.cell rfl
      have f0_3 : W'.frozen? ⟨gN, 3, none⟩ = false := H1.out.frozen 3
      have o0_4 : W'.cell? ⟨gN, 4, none⟩ = some (.int .i64 T.ending) := H1.out.cell rfl
      have f0_4 : W'.frozen? ⟨gN, 4, none⟩ = false := H1.out.frozen 4
      have c0_3 : W'.cell? ⟨Bx, 3, none⟩ = some (.int .i64 c.image) := HX.out.cell rfl
      have c0_4 : W'.cell? ⟨Bx, 4, none⟩ = some (.int .i64 c.state) := HX.out.cell rfl
      have d0_3 : W'.cell? ⟨w.heap.size, 3, none⟩ = some (.int .i64 v.image) := H2.out.cell rfl
      have o1_0 : (W'.setCell ⟨gN, 0, none⟩ (.int .i64 (T.live + 1))).cell? ⟨gN, 0, none⟩ = some (.int .i64 (T.live + 1)) := hx1.cell rfl
      have f1_0 : (W'.setCell ⟨gN, 0, none⟩ (.int .i64 (T.live + 1))).frozen? ⟨gN, 0, none⟩ = false := hx1.frozen 0
      have o1_1 : (W'.setCell ⟨gN, 0, none⟩ (.int .i64 (T.live + 1))).cell? ⟨gN, 1, none⟩ = some (.int .i64 T.ready) := hx1.cell rfl
      have f1_1 : (W'.setCell ⟨gN, 0, none⟩ (.int .i64 (T.live + 1))).frozen? ⟨gN, 1, none⟩ = false := hx1.frozen 1
      have o1_2 : (W'.setCell ⟨gN, 0, none⟩ (.int .i64 (T.live + 1))).cell? ⟨gN, 2, none⟩ = some (.int .i64 T.old) := hx1.cell rfl
      have f1_2 : (W'.setCell ⟨gN, 0, none⟩ (.int .i64 (T.live + 1))).frozen? ⟨gN, 2, none⟩ = false := hx1.frozen 2
      have o1_3 : (W'.setCell ⟨gN, 0, none⟩ (.int .i64 (T.live + 1))).cell? ⟨gN, 3, none⟩ = some (.int .i64 T.failed) := hx1.cell rfl
      have f1_3 : (W'.setCell ⟨gN, 0, none⟩ (.int .i64 (T.live + 1))).frozen? ⟨gN, 3, none⟩ = false := hx1.frozen 3
      have o1_4 : (W'.setCell ⟨gN, 0, none⟩ (.int .i64 (T.live + 1))).cell? ⟨gN, 4, none⟩ = some (.int .i64 T.ending) := hx1.cell rfl
      have f1_4 : (W'.setCell ⟨gN, 0, none⟩ (.int .i64 (T.live + 1))).frozen? ⟨gN, 4, none⟩ = false := hx1.frozen 4
      have c1_3 : (W'.setCell ⟨gN, 0, none⟩ (.int .i64 (T.live + 1))).cell? ⟨Bx, 3, none⟩ = some (.int .i64 c.image) := hb1.cell rfl
      have c1_4 : (W'.setCell ⟨gN, 0, none⟩ (.int .i64 (T.live + 1))).cell? ⟨Bx, 4, none⟩ = some (.int .i64 c.state) := hb1.cell rfl
      have d1_3 : (W'.setCell ⟨gN, 0, none⟩ (.int .i64 (T.live + 1))).cell? ⟨w.heap.size, 3, none⟩ = some (.int .i64 v.image) := hs1.cell rfl
      have o2_0 : ((W'.setCell ⟨gN, 0, none⟩ (.int .i64 (T.live + 1))).setCell ⟨gN, 2, none⟩ (.int .i64 (T.old + 1))).cell? ⟨gN, 0, none⟩ = some (.int .i64 (T.live + 1)) := hx2.cell rfl
      have f2_0 : ((W'.setCell ⟨gN, 0, none⟩ (.int .i64 (T.live + 1))).setCell ⟨gN, 2, none⟩ (.int .i64 (T.old + 1))).frozen? ⟨gN, 0, none⟩ = false := hx2.frozen 0
      have o2_1 : ((W'.setCell ⟨gN, 0, none⟩ (.int .i64 (T.live + 1))).setCell ⟨gN, 2, none⟩ (.int .i64 (T.old + 1))).cell? ⟨gN, 1, none⟩ = some (.int .i64 T.ready) := hx2.cell rfl
      have f2_1 : ((W'.setCell ⟨gN, 0, none⟩ (.int .i64 (T.live + 1))).setCell ⟨gN, 2, none⟩ (.int .i64 (T.old + 1))).frozen? ⟨gN, 1, none⟩ = false := hx2.frozen 1
      have o2_2 : ((W'.setCell ⟨gN, 0, none⟩ (.int .i64 (T.live + 1))).setCell ⟨gN, 2, none⟩ (.int .i64 (T.old + 1))).cell? ⟨gN, 2, none⟩ = some (.int .i64 (T.old + 1)) := hx2.cell rfl
      have f2_2 : ((W'.setCell ⟨gN, 0, none⟩ (.int .i64 (T.live + 1))).setCell ⟨gN, 2, none⟩ (.int .i64 (T.old + 1))).frozen? ⟨gN, 2, none⟩ = false := hx2.frozen 2
      have o2_3 : ((W'.setCell ⟨gN, 0, none⟩ (.int .i64 (T.live + 1))).setCell ⟨gN, 2, none⟩ (.int .i64 (T.old + 1))).cell? ⟨gN, 3, none⟩ = some (.int .i64 T.failed) := hx2.cell rfl
      have f2_3 : ((W'.setCell ⟨gN, 0, none⟩ (.int .i64 (T.live + 1))).setCell ⟨gN, 2, none⟩ (.int .i64 (T.old + 1))).frozen? ⟨gN, 3, none⟩ = false := hx2.frozen 3
      have o2_4 : ((W'.setCell ⟨gN, 0, none⟩ (.int .i64 (T.live + 1))).setCell ⟨gN, 2, none⟩ (.int .i64 (T.old + 1))).cell? ⟨gN, 4, none⟩ = some (.int .i64 T.ending) := hx2.cell rfl
      have f2_4 : ((W'.setCell ⟨gN, 0, none⟩ (.int .i64 (T.live + 1))).setCell ⟨gN, 2, none⟩ (.int .i64 (T.old + 1))).frozen? ⟨gN, 4, none⟩ = false := hx2.frozen 4
      have c2_3 : ((W'.setCell ⟨gN, 0, none⟩ (.int .i64 (T.live + 1))).setCell ⟨gN, 2, none⟩ (.int .i64 (T.old + 1))).cell? ⟨Bx, 3, none⟩ = some (.int .i64 c.image) := hb2.cell rfl
      have c2_4 : ((W'.setCell ⟨gN, 0, none⟩ (.int .i64 (T.live + 1))).setCell ⟨gN, 2, none⟩ (.int .i64 (T.old + 1))).cell? ⟨Bx, 4, none⟩ = some (.int .i64 c.state) := hb2.cell rfl
      have d2_3 : ((W'.setCell ⟨gN, 0, none⟩ (.int .i64 (T.live + 1))).setCell ⟨gN, 2, none⟩ (.int .i64 (T.old + 1))).cell? ⟨w.heap.size, 3, none⟩ = some (.int .i64 v.image) := hs2.cell rfl
      have o3_0 : (((W'.setCell ⟨gN, 0, none⟩ (.int .i64 (T.live + 1))).setCell ⟨gN, 2, none⟩ (.int .i64 (T.old + 1))).setCell ⟨gN, 3, none⟩ (.int .i64 (T.failed + 1))).cell? ⟨gN, 0, none⟩ = some (.int .i64 (T.live + 1)) := hx3.cell rfl
      have f3_0 : (((W'.setCell ⟨gN, 0, none⟩ (.int .i64 (T.live + 1))).setCell ⟨gN, 2, none⟩ (.int .i64 (T.old + 1))).setCell ⟨gN, 3, none⟩ (.int .i64 (T.failed + 1))).frozen? ⟨gN, 0, none⟩ = false := hx3.frozen 0
      have o3_1 : (((W'.setCell ⟨gN, 0, none⟩ (.int .i64 (T.live + 1))).setCell ⟨gN, 2, none⟩ (.int .i64 (T.old + 1))).setCell ⟨gN, 3, none⟩ (.int .i64 (T.failed + 1))).cell? ⟨gN, 1, none⟩ = some (.int .i64 T.ready) := hx3.cell rfl
      have f3_1 : (((W'.setCell ⟨gN, 0, none⟩ (.int .i64 (T.live + 1))).setCell ⟨gN, 2, none⟩ (.int .i64 (T.old + 1))).setCell ⟨gN, 3, none⟩ (.int .i64 (T.failed + 1))).frozen? ⟨gN, 1, none⟩ = false := hx3.frozen 1
      have o3_2 : (((W'.setCell ⟨gN, 0, none⟩ (.int .i64 (T.live + 1))).setCell ⟨gN, 2, none⟩ (.int .i64 (T.old + 1))).setCell ⟨gN, 3, none⟩ (.int .i64 (T.failed + 1))).cell? ⟨gN, 2, none⟩ = some (.int .i64 (T.old + 1)) := hx3.cell rfl
      have f3_2 : (((W'.setCell ⟨gN, 0, none⟩ (.int .i64 (T.live + 1))).setCell ⟨gN, 2, none⟩ (.int .i64 (T.old + 1))).setCell ⟨gN, 3, none⟩ (.int .i64 (T.failed + 1))).frozen? ⟨gN, 2, none⟩ = false := hx3.frozen 2
      have o3_3 : (((W'.setCell ⟨gN, 0, none⟩ (.int .i64 (T.live + 1))).setCell ⟨gN, 2, none⟩ (.int .i64 (T.old + 1))).setCell ⟨gN, 3, none⟩ (.int .i64 (T.failed + 1))).cell? ⟨gN, 3, none⟩ = some (.int .i64 (T.failed + 1)) := hx3.cell rfl
      have f3_3 : (((W'.setCell ⟨gN, 0, none⟩ (.int .i64 (T.live + 1))).setCell ⟨gN, 2, none⟩ (.int .i64 (T.old + 1))).setCell ⟨gN, 3, none⟩ (.int .i64 (T.failed + 1))).frozen? ⟨gN, 3, none⟩ = false := hx3.frozen 3
      have o3_4 : (((W'.setCell ⟨gN, 0, none⟩ (.int .i64 (T.live + 1))).setCell ⟨gN, 2, none⟩ (.int .i64 (T.old + 1))).setCell ⟨gN, 3, none⟩ (.int .i64 (T.failed + 1))).cell? ⟨gN, 4, none⟩ = some (.int .i64 T.ending) := hx3.cell rfl
      have f3_4 : (((W'.setCell ⟨gN, 0, none⟩ (.int .i64 (T.live + 1))).setCell ⟨gN, 2, none⟩ (.int .i64 (T.old + 1))).setCell ⟨gN, 3, none⟩ (.int .i64 (T.failed + 1))).frozen? ⟨gN, 4, none⟩ = false := hx3.frozen 4
      have c3_3 : (((W'.setCell ⟨gN, 0, none⟩ (.int .i64 (T.live + 1))).setCell ⟨gN, 2, none⟩ (.int .i64 (T.old + 1))).setCell ⟨gN, 3, none⟩ (.int .i64 (T.failed + 1))).cell? ⟨Bx, 3, none⟩ = some (.int .i64 c.image) := hb3.cell rfl
      have c3_4 : (((W'.setCell ⟨gN, 0, none⟩ (.int .i64 (T.live + 1))).setCell ⟨gN, 2, none⟩ (.int .i64 (T.old + 1))).setCell ⟨gN, 3, none⟩ (.int .i64 (T.failed + 1))).cell? ⟨Bx, 4, none⟩ = some (.int .i64 c.state) := hb3.cell rfl
      have d3_3 : (((W'.setCell ⟨gN, 0, none⟩ (.int .i64 (T.live + 1))).setCell ⟨gN, 2, none⟩ (.int .i64 (T.old + 1))).setCell ⟨gN, 3, none⟩ (.int .i64 (T.failed + 1))).cell? ⟨w.heap.size, 3, none⟩ = some (.int .i64 v.image) := hs3.cell rfl
      have HZZ := Hid.intro hx3
      have HSS := Hid.intro hs3
      clear hx1 hb1 hs1 hx2 hb2 hs2 hx3 hb3 hs3
      gi_wp2
      refine ⟨(((KeepsOthers.setCell _ _ _).trans (KeepsOthers.setCell _ _ _)).trans (KeepsOthers.setCell _ _ _)).from _, ((((But.refl gN w6.heap.size W').set 0 _).set 2 _).set 3 _), ?_, HSS.out, (((H3.out.other (a := ⟨gN, 0, none⟩) hrg _).other (a := ⟨gN, 2, none⟩) hrg _).other (a := ⟨gN, 3, none⟩) hrg _), (((H4.out.setCell (p := ⟨gN, 0, none⟩) (by show w.heap.size ≤ gN; omega) _).setCell (p := ⟨gN, 2, none⟩) (by show w.heap.size ≤ gN; omega) _).setCell (p := ⟨gN, 3, none⟩) (by show w.heap.size ≤ gN; omega) _), by simp [World.setCell]; exact H5.out⟩
      rw [HSN.out]
      exact HZZ.out
     ·skip
      have HSN : Hid (ctA (cqL v.image (pre ++ [c])) = #[.int .i64 (T.live + 1), .int .i64 T.ready, .int .i64 (T.old + 1), .int .i64 T.failed, .int .i64 T.ending]) := by show _ = _; rw [hSN]; unfold stq; rw [if_neg (by rw [hen]; simp), if_neg h3, if_neg him, if_neg h4]; rfl
      have e3 : (c.state == 3) = false := by simpa using h3
      have e4 : (c.state == 4) = false := by simpa using h4
      have ei : (c.image == v.image) = false := by simpa using him
      have en : (c.image != v.image) = true := by simp [bne, ei]
      clear hSN hen
      have hx1 : Blk gN #[.int .i64 (T.live + 1), .int .i64 T.ready, .int .i64 T.old, .int .i64 T.failed, .int .i64 T.ending] 94 (W'.setCell ⟨gN, 0, none⟩ (.int .i64 (T.live + 1))) := H1.out.set 0 (.int .i64 (T.live + 1))
      have hb1 : Blk Bx #[.string c.service, .int .i64 c.number, .int .i64 c.version, .int .i64 c.image, .int .i64 c.state, .bool c.ending, .string c.berth] 87 (W'.setCell ⟨gN, 0, none⟩ (.int .i64 (T.live + 1))) := HX.out.other (a := ⟨gN, 0, none⟩) hbg _
      have hs1 : Blk w.heap.size #[.string v.name, .int .i64 v.version, .bool v.gone, .int .i64 v.image, .int .i64 v.want, .int .i64 v.down, .int .i64 v.over, .int .i64 v.next, .int .i64 v.per, .int .i64 v.least, .int .i64 v.most, .int .i64 v.load, .int .i64 v.cool] 50 (W'.setCell ⟨gN, 0, none⟩ (.int .i64 (T.live + 1))) := H2.out.other (a := ⟨gN, 0, none⟩) hsg _
      have hx2 : Blk gN #[.int .i64 (T.live + 1), .int .i64 T.ready, .int .i64 (T.old + 1), .int .i64 T.failed, .int .i64 T.ending] 94 ((W'.setCell ⟨gN, 0, none⟩ (.int .i64 (T.live + 1))).setCell ⟨gN, 2, none⟩ (.int .i64 (T.old + 1))) := hx1.set 2 (.int .i64 (T.old + 1))
      have hb2 : Blk Bx #[.string c.service, .int .i64 c.number, .int .i64 c.version, .int .i64 c.image, .int .i64 c.state, .bool c.ending, .string c.berth] 87 ((W'.setCell ⟨gN, 0, none⟩ (.int .i64 (T.live + 1))).setCell ⟨gN, 2, none⟩ (.int .i64 (T.old + 1))) := hb1.other (a := ⟨gN, 2, none⟩) hbg _
      have hs2 : Blk w.heap.size #[.string v.name, .int .i64 v.version, .bool v.gone, .int .i64 v.image, .int .i64 v.want, .int .i64 v.down, .int .i64 v.over, .int .i64 v.next, .int .i64 v.per, .int .i64 v.least, .int .i64 v.most, .int .i64 v.load, .int .i64 v.cool] 50 ((W'.setCell ⟨gN, 0, none⟩ (.int .i64 (T.live + 1))).setCell ⟨gN, 2, none⟩ (.int .i64 (T.old + 1))) := hs1.other (a := ⟨gN, 2, none⟩) hsg _
      have o0_0 : W'.cell? ⟨gN, 0, none⟩ = some (.int .i64 T.live) := H1.out.cell rfl
      have f0_0 : W'.frozen? ⟨gN, 0, none⟩ = false := H1.out.frozen 0
      have o0_1 : W'.cell? ⟨gN, 1, none⟩ = some (.int .i64 T.ready) := H1.out.cell rfl
      have f0_1 : W'.frozen? ⟨gN, 1, none⟩ = false := H1.out.frozen 1
      have o0_2 : W'.cell? ⟨gN, 2, none⟩ = some (.int .i64 T.old) := H1.out.cell rfl
      have f0_2 : W'.frozen? ⟨gN, 2, none⟩ = false := H1.out.frozen 2
      have o0_3 : W'.cell? ⟨gN, 3, none⟩ = some (.int .i64 T.failed) := H1.out.cell rfl
      have f0_3 : W'.frozen? ⟨gN, 3, none⟩ = false := H1.out.frozen 3
      have o0_4 : W'.cell? ⟨gN, 4, none⟩ = some (.int .i64 T.ending) := H1.out.cell rfl
      have f0_4 : W'.frozen? ⟨gN, 4, none⟩ = false := H1.out.frozen 4
      have c0_3 : W'.cell? ⟨Bx, 3, none⟩ = some (.int .i64 c.image) := HX.out.cell rfl
      have c0_4 : W'.cell? ⟨Bx, 4, none⟩ = some (.int .i64 c.state) := HX.out.cell rfl
      have d0_3 : W'.cell? ⟨w.heap.size, 3, none⟩ = some (.int .i64 v.image) := H2.out.cell rfl
      have o1_0 : (W'.setCell ⟨gN, 0, none⟩ (.int .i64 (T.live + 1))).cell? ⟨gN, 0, none⟩ = some (.int .i64 (T.live + 1)) := hx1.cell rfl
      have f1_0 : (W'.setCell ⟨gN, 0, none⟩ (.int .i64 (T.live + 1))).frozen? ⟨gN, 0, none⟩ = false := hx1.frozen 0
      have o1_1 : (W'.setCell ⟨gN, 0, none⟩ (.int .i64 (T.live + 1))).cell? ⟨gN, 1, none⟩ = some (.int .i64 T.ready) := hx1.cell rfl
      have f1_1 : (W'.setCell ⟨gN, 0, none⟩ (.int .i64 (T.live + 1))).frozen? ⟨gN, 1, none⟩ = false := hx1.frozen 1
      have o1_2 : (W'.setCell ⟨gN, 0, none⟩ (.int .i64 (T.live + 1))).cell? ⟨gN, 2, none⟩ = some (.int .i64 T.old) := hx1.cell rfl
      have f1_2 : (W'.setCell ⟨gN, 0, none⟩ (.int .i64 (T.live + 1))).frozen? ⟨gN, 2, none⟩ = false := hx1.frozen 2
      have o1_3 : (W'.setCell ⟨gN, 0, none⟩ (.int .i64 (T.live + 1))).cell? ⟨gN, 3, none⟩ = some (.int .i64 T.failed) := hx1.cell rfl
      have f1_3 : (W'.setCell ⟨gN, 0, none⟩ (.int .i64 (T.live + 1))).frozen? ⟨gN, 3, none⟩ = false := hx1.frozen 3
      have o1_4 : (W'.setCell ⟨gN, 0, none⟩ (.int .i64 (T.live + 1))).cell? ⟨gN, 4, none⟩ = some (.int .i64 T.ending) := hx1.cell rfl
      have f1_4 : (W'.setCell ⟨gN, 0, none⟩ (.int .i64 (T.live + 1))).frozen? ⟨gN, 4, none⟩ = false := hx1.frozen 4
      have c1_3 : (W'.setCell ⟨gN, 0, none⟩ (.int .i64 (T.live + 1))).cell? ⟨Bx, 3, none⟩ = some (.int .i64 c.image) := hb1.cell rfl
      have c1_4 : (W'.setCell ⟨gN, 0, none⟩ (.int .i64 (T.live + 1))).cell? ⟨Bx, 4, none⟩ = some (.int .i64 c.state) := hb1.cell rfl
      have d1_3 : (W'.setCell ⟨gN, 0, none⟩ (.int .i64 (T.live + 1))).cell? ⟨w.heap.size, 3, none⟩ = some (.int .i64 v.image) := hs1.cell rfl
      have o2_0 : ((W'.setCell ⟨gN, 0, none⟩ (.int .i64 (T.live + 1))).setCell ⟨gN, 2, none⟩ (.int .i64 (T.old + 1))).cell? ⟨gN, 0, none⟩ = some (.int .i64 (T.live + 1)) := hx2.cell rfl
      have f2_0 : ((W'.setCell ⟨gN, 0, none⟩ (.int .i64 (T.live + 1))).setCell ⟨gN, 2, none⟩ (.int .i64 (T.old + 1))).frozen? ⟨gN, 0, none⟩ = false := hx2.frozen 0
      have o2_1 : ((W'.setCell ⟨gN, 0, none⟩ (.int .i64 (T.live + 1))).setCell ⟨gN, 2, none⟩ (.int .i64 (T.old + 1))).cell? ⟨gN, 1, none⟩ = some (.int .i64 T.ready) := hx2.cell rfl
      have f2_1 : ((W'.setCell ⟨gN, 0, none⟩ (.int .i64 (T.live + 1))).setCell ⟨gN, 2, none⟩ (.int .i64 (T.old + 1))).frozen? ⟨gN, 1, none⟩ = false := hx2.frozen 1
      have o2_2 : ((W'.setCell ⟨gN, 0, none⟩ (.int .i64 (T.live + 1))).setCell ⟨gN, 2, none⟩ (.int .i64 (T.old + 1))).cell? ⟨gN, 2, none⟩ = some (.int .i64 (T.old + 1)) := hx2.cell rfl
      have f2_2 : ((W'.setCell ⟨gN, 0, none⟩ (.int .i64 (T.live + 1))).setCell ⟨gN, 2, none⟩ (.int .i64 (T.old + 1))).frozen? ⟨gN, 2, none⟩ = false := hx2.frozen 2
      have o2_3 : ((W'.setCell ⟨gN, 0, none⟩ (.int .i64 (T.live + 1))).setCell ⟨gN, 2, none⟩ (.int .i64 (T.old + 1))).cell? ⟨gN, 3, none⟩ = some (.int .i64 T.failed) := hx2.cell rfl
      have f2_3 : ((W'.setCell ⟨gN, 0, none⟩ (.int .i64 (T.live + 1))).setCell ⟨gN, 2, none⟩ (.int .i64 (T.old + 1))).frozen? ⟨gN, 3, none⟩ = false := hx2.frozen 3
      have o2_4 : ((W'.setCell ⟨gN, 0, none⟩ (.int .i64 (T.live + 1))).setCell ⟨gN, 2, none⟩ (.int .i64 (T.old + 1))).cell? ⟨gN, 4, none⟩ = some (.int .i64 T.ending) := hx2.cell rfl
      have f2_4 : ((W'.setCell ⟨gN, 0, none⟩ (.int .i64 (T.live + 1))).setCell ⟨gN, 2, none⟩ (.int .i64 (T.old + 1))).frozen? ⟨gN, 4, none⟩ = false := hx2.frozen 4
      have c2_3 : ((W'.setCell ⟨gN, 0, none⟩ (.int .i64 (T.live + 1))).setCell ⟨gN, 2, none⟩ (.int .i64 (T.old + 1))).cell? ⟨Bx, 3, none⟩ = some (.int .i64 c.image) := hb2.cell rfl
      have c2_4 : ((W'.setCell ⟨gN, 0, none⟩ (.int .i64 (T.live + 1))).setCell ⟨gN, 2, none⟩ (.int .i64 (T.old + 1))).cell? ⟨Bx, 4, none⟩ = some (.int .i64 c.state) := hb2.cell rfl
      have d2_3 : ((W'.setCell ⟨gN, 0, none⟩ (.int .i64 (T.live + 1))).setCell ⟨gN, 2, none⟩ (.int .i64 (T.old + 1))).cell? ⟨w.heap.size, 3, none⟩ = some (.int .i64 v.image) := hs2.cell rfl
      have HZZ := Hid.intro hx2
      have HSS := Hid.intro hs2
      clear hx1 hb1 hs1 hx2 hb2 hs2
      gi_wp2
      refine ⟨((KeepsOthers.setCell _ _ _).trans (KeepsOthers.setCell _ _ _)).from _, (((But.refl gN w6.heap.size W').set 0 _).set 2 _), ?_, HSS.out, ((H3.out.other (a := ⟨gN, 0, none⟩) hrg _).other (a := ⟨gN, 2, none⟩) hrg _), ((H4.out.setCell (p := ⟨gN, 0, none⟩) (by show w.heap.size ≤ gN; omega) _).setCell (p := ⟨gN, 2, none⟩) (by show w.heap.size ≤ gN; omega) _), by simp [World.setCell]; exact H5.out⟩
      rw [HSN.out]
      exact HZZ.out
 ·rintro D xs W' hD hcame ⟨h1, h2, h3, h4, h5⟩ hK
  have hE : cqL v.image xs = cntL x.copies v.name v.image := by rw [cnt_filter, hcame]
  rw [hE] at h1
  clear hE hcame
  obtain ⟨T, hT⟩ : ∃ T, cntL x.copies v.name v.image = T := ⟨_, rfl⟩
  rw [hT] at h1
  have HTT := Hid.intro hT
  clear hT
  have HT := Hid.intro h3.there
  have hR10 := World.rangeAt_setCells_same W' gR 0 [.int .i64 T.live, .int .i64 T.ready, .int .i64 T.old, .int .i64 T.failed, .int .i64 T.ending] h3.there
  have hbs : Below w.heap.size W' (W'.setCells gR 0 [.int .i64 T.live, .int .i64 T.ready, .int .i64 T.old, .int .i64 T.failed, .int .i64 T.ending]) := below_setCells (by omega) _ _ _ (Below.refl _ _)
  have hB10 : Below w.heap.size w (W'.setCells gR 0 [.int .i64 T.live, .int .i64 T.ready, .int .i64 T.old, .int .i64 T.failed, .int .i64 T.ending]) := h4.trans hbs
  have hK10 : (W'.setCells gR 0 [.int .i64 T.live, .int .i64 T.ready, .int .i64 T.old, .int .i64 T.failed, .int .i64 T.ending]).heap[D]? = some (.deferred (some [])) := (heap_setCells_other (by omega) _ _ _).trans hK
  obtain ⟨w10, HW10⟩ : ∃ w10, Hid (w10 = W'.setCells gR 0 [.int .i64 T.live, .int .i64 T.ready, .int .i64 T.old, .int .i64 T.failed, .int .i64 T.ending]) := ⟨_, rfl⟩
  rw [← HW10.out] at hR10 hB10 hK10
  have HR10 := Hid.intro hR10
  have HB10 := Hid.intro hB10
  have HK10 := Hid.intro hK10
  have H1 : Hid (Blk gN #[.int .i64 T.live, .int .i64 T.ready, .int .i64 T.old, .int .i64 T.failed, .int .i64 T.ending] 94 W') := h1
  clear hR10 hB10 hK10 hbs h1 h2 h3 h4 hK
  go_wp2_with (first | (refine wpList_load_mid rfl 94 _ rfl gN 0 (by first | rfl | (simp [go_sem]; done)) [.int .i64 T.live, .int .i64 T.ready, .int .i64 T.old, .int .i64 T.failed, .int .i64 T.ending] _ H1.out.rangeA Tryz.underlying94 rfl isz_Sct ?_) | (refine wpList_store_to rfl 94 _ _ rfl gR 0 #[.int .i64 T.live, .int .i64 T.ready, .int .i64 T.old, .int .i64 T.failed, .int .i64 T.ending] rfl rfl HT.out isz_Sct (by simp [Value.oneCell']) w10 HW10.out ?_))
  refine ⟨by simp, .inl ⟨_, _, rfl, run_takeDeferred HK10.out, ?_⟩⟩
  refine ⟨_, results_cell_mid rfl _ _ gR [.int .i64 T.live, .int .i64 T.ready, .int .i64 T.old, .int .i64 T.failed, .int .i64 T.ending] _ rfl ?_ Tryz.underlying94 rfl isz_Sct, ?_⟩
  ·intro j v hj
   rw [World.cell?_of_block (w := w10) (a := ⟨gR, 0 + j, none⟩) (World.putObj_heap_other (by show gR ≠ D; omega))]
   exact HR10.out j v hj
  ·have hbp : ∀ o, Below w.heap.size w10 (w10.putObj D o) := fun o => (Below.refl w.heap.size w10).grown (grownBy_putObj' w10 D _) HB10.out.size (fun k e => by cases e; omega)
   exact ⟨by rw [HTT.out], HB10.out.trans (hbp _)⟩
 ·intro D c pre W' _ _ h
  exact h.elim

end Go.Proofs.YtnggdpjfmpjlhaaGreat
