import Derived.Test.YtebfdgfhadpieaaGreatJ35
namespace Go.Proofs.YtebfdgfhadpieaaGreat
open Go.RowKit Go.WideMaps Go.Maps
def L3In (B : Nat) (x : Flt) (a1 : Option Addr) (c1 : Nat) (a2 : Option Addr) (c2 : Nat) (a3 : Option Addr) (c3 : Nat) (y : Cpy) (a7 : Option Addr) (c7 : Nat) (b : Brt) (am : Option Addr) (cm : Nat) (w : World) : Prop :=
 Blk B #[.bool x.pack, .slice a1 x.berths.length c1, .slice a2 x.services.length c2, .slice a3 x.copies.length c3] 33 w ∧ Blk (B + 1) #[.string y.name, .string y.service, .int .i64 y.rank, .int .i64 y.born, .int .i64 y.room, .int .i64 y.hold, .string y.select, .slice a7 y.likes.length c7, .int .i64 y.apart, .string y.near, .string y.fixed, .string y.at_] 45 w ∧ Blk (B + 1 + 1) #[.string b.name, .string b.zone, .slice am b.marks.length cm, .int .i64 b.room, .int .i64 b.hold, .bool b.closed] 61 w
theorem L3In.below {B : Nat} {x : Flt} {a1 : Option Addr} {c1 : Nat} {a2 : Option Addr} {c2 : Nat} {a3 : Option Addr} {c3 : Nat} {y : Cpy} {a7 : Option Addr} {c7 : Nat} {b : Brt} {am : Option Addr} {cm : Nat} {w w' : World} (h : L3In B x a1 c1 a2 c2 a3 c3 y a7 c7 b am cm w) (hb : Below w.heap.size w w') : L3In B x a1 c1 a2 c2 a3 c3 y a7 c7 b am cm w' :=
 ⟨h.1.below hb h.1.lt, h.2.1.below hb h.2.1.lt, h.2.2.below hb h.2.2.lt⟩
theorem L3In.drew {B : Nat} {x : Flt} {a1 : Option Addr} {c1 : Nat} {a2 : Option Addr} {c2 : Nat} {a3 : Option Addr} {c3 : Nat} {y : Cpy} {a7 : Option Addr} {c7 : Nat} {b : Brt} {am : Option Addr} {cm : Nat} {w : World} (h : L3In B x a1 c1 a2 c2 a3 c3 y a7 c7 b am cm w) : L3In B x a1 c1 a2 c2 a3 c3 y a7 c7 b am cm w.drew := h
theorem L3In.flt {B : Nat} {x : Flt} {a1 : Option Addr} {c1 : Nat} {a2 : Option Addr} {c2 : Nat} {a3 : Option Addr} {c3 : Nat} {y : Cpy} {a7 : Option Addr} {c7 : Nat} {b : Brt} {am : Option Addr} {cm : Nat} {w : World} (h : L3In B x a1 c1 a2 c2 a3 c3 y a7 c7 b am cm w) : FltIn B x a1 c1 a2 c2 a3 c3 w := ⟨h.1.cell rfl, h.1.cell rfl, h.1.cell rfl, h.1.cell rfl⟩
theorem L3In.of (x : Flt) (a1 : Option Addr) (c1 : Nat) (a2 : Option Addr) (c2 : Nat) (a3 : Option Addr) (c3 : Nat) (y : Cpy) (a7 : Option Addr) (c7 : Nat) (b : Brt) (am : Option Addr) (cm : Nat) (w : World) : L3In w.heap.size x a1 c1 a2 c2 a3 c3 y a7 c7 b am cm (((w.alloc (Obj.cells #[.bool x.pack, .slice a1 x.berths.length c1, .slice a2 x.services.length c2, .slice a3 x.copies.length c3] 33)).alloc (Obj.cells #[.string y.name, .string y.service, .int .i64 y.rank, .int .i64 y.born, .int .i64 y.room, .int .i64 y.hold, .string y.select, .slice a7 y.likes.length c7, .int .i64 y.apart, .string y.near, .string y.fixed, .string y.at_] 45)).alloc (Obj.cells #[.string b.name, .string b.zone, .slice am b.marks.length cm, .int .i64 b.room, .int .i64 b.hold, .bool b.closed] 61)) ∧ Below w.heap.size w (((w.alloc (Obj.cells #[.bool x.pack, .slice a1 x.berths.length c1, .slice a2 x.services.length c2, .slice a3 x.copies.length c3] 33)).alloc (Obj.cells #[.string y.name, .string y.service, .int .i64 y.rank, .int .i64 y.born, .int .i64 y.room, .int .i64 y.hold, .string y.select, .slice a7 y.likes.length c7, .int .i64 y.apart, .string y.near, .string y.fixed, .string y.at_] 45)).alloc (Obj.cells #[.string b.name, .string b.zone, .slice am b.marks.length cm, .int .i64 b.room, .int .i64 b.hold, .bool b.closed] 61)) := by
 have e0 : Blk w.heap.size #[.bool x.pack, .slice a1 x.berths.length c1, .slice a2 x.services.length c2, .slice a3 x.copies.length c3] 33 (w.alloc (Obj.cells #[.bool x.pack, .slice a1 x.berths.length c1, .slice a2 x.services.length c2, .slice a3 x.copies.length c3] 33)) := Blk.alloc _ _ _
 have e1 : Blk (w.heap.size + 1) #[.string y.name, .string y.service, .int .i64 y.rank, .int .i64 y.born, .int .i64 y.room, .int .i64 y.hold, .string y.select, .slice a7 y.likes.length c7, .int .i64 y.apart, .string y.near, .string y.fixed, .string y.at_] 45 ((w.alloc (Obj.cells #[.bool x.pack, .slice a1 x.berths.length c1, .slice a2 x.services.length c2, .slice a3 x.copies.length c3] 33)).alloc (Obj.cells #[.string y.name, .string y.service, .int .i64 y.rank, .int .i64 y.born, .int .i64 y.room, .int .i64 y.hold, .string y.select, .slice a7 y.likes.length c7, .int .i64 y.apart, .string y.near, .string y.fixed, .string y.at_] 45)) := by
  have h := Blk.alloc (w.alloc (Obj.cells #[.bool x.pack, .slice a1 x.berths.length c1, .slice a2 x.services.length c2, .slice a3 x.copies.length c3] 33)) #[.string y.name, .string y.service, .int .i64 y.rank, .int .i64 y.born, .int .i64 y.room, .int .i64 y.hold, .string y.select, .slice a7 y.likes.length c7, .int .i64 y.apart, .string y.near, .string y.fixed, .string y.at_] 45
  simpa using h
 have e2 : Blk (w.heap.size + 1 + 1) #[.string b.name, .string b.zone, .slice am b.marks.length cm, .int .i64 b.room, .int .i64 b.hold, .bool b.closed] 61 (((w.alloc (Obj.cells #[.bool x.pack, .slice a1 x.berths.length c1, .slice a2 x.services.length c2, .slice a3 x.copies.length c3] 33)).alloc (Obj.cells #[.string y.name, .string y.service, .int .i64 y.rank, .int .i64 y.born, .int .i64 y.room, .int .i64 y.hold, .string y.select, .slice a7 y.likes.length c7, .int .i64 y.apart, .string y.near, .string y.fixed, .string y.at_] 45)).alloc (Obj.cells #[.string b.name, .string b.zone, .slice am b.marks.length cm, .int .i64 b.room, .int .i64 b.hold, .bool b.closed] 61)) := by
  have h := Blk.alloc ((w.alloc (Obj.cells #[.bool x.pack, .slice a1 x.berths.length c1, .slice a2 x.services.length c2, .slice a3 x.copies.length c3] 33)).alloc (Obj.cells #[.string y.name, .string y.service, .int .i64 y.rank, .int .i64 y.born, .int .i64 y.room, .int .i64 y.hold, .string y.select, .slice a7 y.likes.length c7, .int .i64 y.apart, .string y.near, .string y.fixed, .string y.at_] 45)) #[.string b.name, .string b.zone, .slice am b.marks.length cm, .int .i64 b.room, .int .i64 b.hold, .bool b.closed] 61
  simpa using h
 have b1 : Below (w.alloc (Obj.cells #[.bool x.pack, .slice a1 x.berths.length c1, .slice a2 x.services.length c2, .slice a3 x.copies.length c3] 33)).heap.size (w.alloc (Obj.cells #[.bool x.pack, .slice a1 x.berths.length c1, .slice a2 x.services.length c2, .slice a3 x.copies.length c3] 33)) ((w.alloc (Obj.cells #[.bool x.pack, .slice a1 x.berths.length c1, .slice a2 x.services.length c2, .slice a3 x.copies.length c3] 33)).alloc (Obj.cells #[.string y.name, .string y.service, .int .i64 y.rank, .int .i64 y.born, .int .i64 y.room, .int .i64 y.hold, .string y.select, .slice a7 y.likes.length c7, .int .i64 y.apart, .string y.near, .string y.fixed, .string y.at_] 45)) := (Below.refl _ _).alloc nL _
 have b2 : Below ((w.alloc (Obj.cells #[.bool x.pack, .slice a1 x.berths.length c1, .slice a2 x.services.length c2, .slice a3 x.copies.length c3] 33)).alloc (Obj.cells #[.string y.name, .string y.service, .int .i64 y.rank, .int .i64 y.born, .int .i64 y.room, .int .i64 y.hold, .string y.select, .slice a7 y.likes.length c7, .int .i64 y.apart, .string y.near, .string y.fixed, .string y.at_] 45)).heap.size ((w.alloc (Obj.cells #[.bool x.pack, .slice a1 x.berths.length c1, .slice a2 x.services.length c2, .slice a3 x.copies.length c3] 33)).alloc (Obj.cells #[.string y.name, .string y.service, .int .i64 y.rank, .int .i64 y.born, .int .i64 y.room, .int .i64 y.hold, .string y.select, .slice a7 y.likes.length c7, .int .i64 y.apart, .string y.near, .string y.fixed, .string y.at_] 45)) (((w.alloc (Obj.cells #[.bool x.pack, .slice a1 x.berths.length c1, .slice a2 x.services.length c2, .slice a3 x.copies.length c3] 33)).alloc (Obj.cells #[.string y.name, .string y.service, .int .i64 y.rank, .int .i64 y.born, .int .i64 y.room, .int .i64 y.hold, .string y.select, .slice a7 y.likes.length c7, .int .i64 y.apart, .string y.near, .string y.fixed, .string y.at_] 45)).alloc (Obj.cells #[.string b.name, .string b.zone, .slice am b.marks.length cm, .int .i64 b.room, .int .i64 b.hold, .bool b.closed] 61)) := (Below.refl _ _).alloc nL _
 exact ⟨⟨(e0.below b1 e0.lt).below b2 (e0.below b1 e0.lt).lt, e1.below b2 e1.lt, e2⟩, by go_grown⟩
def L3T (B : Nat) (x : Flt) (a1 : Option Addr) (c1 : Nat) (a2 : Option Addr) (c2 : Nat) (a3 : Option Addr) (c3 : Nat) (y : Cpy) (b : Brt) (g : Nat) (c : Cpy) (w : World) : Prop :=
 FltIn B x a1 c1 a2 c2 a3 c3 w ∧ w.cell? ⟨g, 11, none⟩ = some (.string c.at_) ∧ w.cell? ⟨g, 8, none⟩ = some (.int .i64 c.apart) ∧ w.cell? ⟨B + 1, 8, none⟩ = some (.int .i64 y.apart) ∧ w.cell? ⟨B + 1 + 1, 1, none⟩ = some (.string b.zone)
theorem L3In.t {B : Nat} {x : Flt} {a1 : Option Addr} {c1 : Nat} {a2 : Option Addr} {c2 : Nat} {a3 : Option Addr} {c3 : Nat} {y : Cpy} {a7 : Option Addr} {c7 : Nat} {b : Brt} {am : Option Addr} {cm : Nat} {w : World} (h : L3In B x a1 c1 a2 c2 a3 c3 y a7 c7 b am cm w) {g : Nat} {c : Cpy} (h1 : w.cell? ⟨g, 11, none⟩ = some (.string c.at_)) (h2 : w.cell? ⟨g, 8, none⟩ = some (.int .i64 c.apart)) : L3T B x a1 c1 a2 c2 a3 c3 y b g c w :=
 ⟨h.flt, h1, h2, h.2.1.cell rfl, h.2.2.cell rfl⟩
theorem near_no {a c : Int} {hb hz : Bool} (h1 : ¬ (hb = true ∧ (a ≠ 0 ∨ c ≠ 0))) (h2 : ¬ (hz = true ∧ (a = 2 ∨ c = 2))) : ¬ nearB a c hb hz = true := by
 unfold nearB
 simp only [Bool.or_eq_true, Bool.and_eq_true, decide_eq_true_eq]
 rintro (h | h)
 ·exact h1 h
 ·exact h2 h
theorem near_yes1 {a c : Int} {hb hz : Bool} (h : hb = true) (h1 : a ≠ 0 ∨ c ≠ 0) : nearB a c hb hz = true := by
 unfold nearB
 simp only [Bool.or_eq_true, Bool.and_eq_true, decide_eq_true_eq]
 exact Or.inl ⟨h, h1⟩
theorem near_yes2 {a c : Int} {hb hz : Bool} (h : hz = true) (h1 : a = 2 ∨ c = 2) : nearB a c hb hz = true := by
 unfold nearB
 simp only [Bool.or_eq_true, Bool.and_eq_true, decide_eq_true_eq]
 exact Or.inr ⟨h, h1⟩
theorem isEmpty_of' {s : ByteArray} (h : s = ⟨#[]⟩) : s.toList.isEmpty = true := by rw [empty_toList h]; rfl
theorem isEmpty_not' {s : ByteArray} (h : ¬ s = ⟨#[]⟩) : s.toList.isEmpty = false := by
 cases e : s.toList with
 | nil => exact absurd e (nonempty_toList h)
 | cons a l => rfl
set_option maxHeartbeats 4000000 in
set_option maxRecDepth 100000 in
theorem l3Together_any (lo ci : Nat) (x : Flt) (a1 : Option Addr) (c1 : Nat) (a2 : Option Addr) (c2 : Nat) (a3 : Option Addr) (c3 : Nat) (y : Cpy) (a7 : Option Addr) (c7 : Nat) (b : Brt) (am : Option Addr) (cm : Nat) (w : World) (n1 : SliceC BrtC 6 lo w a1 x.berths) (n3 : SliceC CpyC 12 lo w a3 x.copies) (hci : x.copies[ci]? = some y) (hv : validI x = true) :
  Calls Tryz.prog 57 #[.agg #[.bool x.pack, .slice a1 x.berths.length c1, .slice a2 x.services.length c2, .slice a3 x.copies.length c3], .agg #[.string y.name, .string y.service, .int .i64 y.rank, .int .i64 y.born, .int .i64 y.room, .int .i64 y.hold, .string y.select, .slice a7 y.likes.length c7, .int .i64 y.apart, .string y.near, .string y.fixed, .string y.at_], .agg #[.string b.name, .string b.zone, .slice am b.marks.length cm, .int .i64 b.room, .int .i64 b.hold, .bool b.closed]] w fun e w' => e = .returned (.bool (togI x ci y b)) ∧ Below w.heap.size w w' := by
 have N1 := iH n1
 have N3 := iH n3
 have HCI := iH hci
 obtain ⟨l2, l3, _, hcN, _, _⟩ := valid_parts hv
 have l1 := (valid_more hv).1
 have HCN := iH hcN
 clear n1 n3 hci hcN
 clear hv
 obtain ⟨CY, hCY⟩ : ∃ CY : Array Value, CY = #[.string y.name, .string y.service, .int .i64 y.rank, .int .i64 y.born, .int .i64 y.room, .int .i64 y.hold, .string y.select, .slice a7 y.likes.length c7, .int .i64 y.apart, .string y.near, .string y.fixed, .string y.at_] := ⟨_, rfl⟩
 have HCY := iH hCY
 rw [← hCY]
 clear hCY
 go_enter Tryz.func57, Tryz.ntmps57
 go_wp2_with fail
 have HI0 : Hid (L3In w.heap.size x a1 c1 a2 c2 a3 c3 y a7 c7 b am cm (((w.alloc (Obj.cells #[.bool x.pack, .slice a1 x.berths.length c1, .slice a2 x.services.length c2, .slice a3 x.copies.length c3] 33)).alloc (Obj.cells CY 45)).alloc (Obj.cells #[.string b.name, .string b.zone, .slice am b.marks.length cm, .int .i64 b.room, .int .i64 b.hold, .bool b.closed] 61))) := by
  rw [HCY.out]
  exact (L3In.of x a1 c1 a2 c2 a3 c3 y a7 c7 b am cm w).1
 have HB0 : Hid (Below w.heap.size w (((w.alloc (Obj.cells #[.bool x.pack, .slice a1 x.berths.length c1, .slice a2 x.services.length c2, .slice a3 x.copies.length c3] 33)).alloc (Obj.cells CY 45)).alloc (Obj.cells #[.string b.name, .string b.zone, .slice am b.marks.length cm, .int .i64 b.room, .int .i64 b.hold, .bool b.closed] 61))) := by
  rw [HCY.out]
  exact (L3In.of x a1 c1 a2 c2 a3 c3 y a7 c7 b am cm w).2
 generalize (((w.alloc (Obj.cells #[.bool x.pack, .slice a1 x.berths.length c1, .slice a2 x.services.length c2, .slice a3 x.copies.length c3] 33)).alloc (Obj.cells CY 45)).alloc (Obj.cells #[.string b.name, .string b.zone, .slice am b.marks.length cm, .int .i64 b.room, .int .i64 b.hold, .bool b.closed] 61)) = w0 at *
 go_loopw [7] (fun i wr => ∃ k : Nat, k ≤ x.copies.length ∧ i = .int .i64 k ∧ Hid (anyTo (togF x ci y b) k = false) ∧ Hid (L3In w.heap.size x a1 c1 a2 c2 a3 c3 y a7 c7 b am cm wr) ∧ Hid (Below w.heap.size w wr)) (fun i _ => x.copies.length - (intOf i).toNat)
 case atStart => exact ⟨0, Nat.zero_le _, rfl, rfl, HI0, HB0⟩
 case round =>
  clear HI0 HB0
  obtain ⟨k, hk, rfl, hT, hI, hB⟩ := hrel
  have p3 : wr.cell? ⟨w.heap.size, 3, none⟩ = some (.slice a3 x.copies.length c3) := hI.out.1.cell rfl
  by_cases hlt : k < x.copies.length
  ·skip
   obtain ⟨c, hck⟩ : ∃ c, x.copies[k]? = some c := ⟨x.copies[k], List.getElem?_eq_getElem hlt⟩
   obtain ⟨cb, co, rfl, _, _, hc⟩ := (N3.out.below CpyC.holds hB.out nL).at hck
   obtain ⟨a8, c8, q0, q1, q2, q3, q4, q5, q6, q7, q8, q9, q10, q11, z0, z1, z6, z9, z10, z11, z7⟩ := hc
   simp only [Nat.add_zero] at q0 q1 q2 q3 q4 q5 q6 q7 q8 q9 q10 q11
   have HRA : Hid (wr.rangeAt cb (co + k * 12) [.string c.name, .string c.service, .int .i64 c.rank, .int .i64 c.born, .int .i64 c.room, .int .i64 c.hold, .string c.select, .slice a8 c.likes.length c8, .int .i64 c.apart, .string c.near, .string c.fixed, .string c.at_]) := range_cons q0 (range_cons q1 (range_cons q2 (range_cons q3 (range_cons q4 (range_cons q5 (range_cons q6 (range_cons q7 (range_cons q8 (range_cons q9 (range_cons q10 (range_cons q11 (range_nil _ _ _))))))))))))
   have HX := iH hck
   have HSM : Hid (k = ci ↔ c.name = y.name) := by
    constructor
    ·rintro rfl
     have := HCI.out
     rw [hck] at this
     cases this
     rfl
    ·intro e
     exact HCN.out.inj (map_get (f := (·.name)) hck) (by rw [map_get (f := (·.name)) HCI.out, e])
   clear hck q0 q1 q2 q3 q4 q5 q6 q7 q8 q9 q10 q11 z0 z1 z6 z7 z9 z10 z11
   go_upto_region 5 with (first | (refine wpList_load_mid rfl 45 _ rfl cb (co + k * 12) (by first | rfl | (simp [go_sem]; done)) [.string c.name, .string c.service, .int .i64 c.rank, .int .i64 c.born, .int .i64 c.room, .int .i64 c.hold, .string c.select, .slice a8 c.likes.length c8, .int .i64 c.apart, .string c.near, .string c.fixed, .string c.at_] _ HRA.out Tryz.underlying45 rfl isz_Cpy ?_))
   have hbx : Below wr.heap.size wr (wr.alloc (Obj.cells #[.string c.name, .string c.service, .int .i64 c.rank, .int .i64 c.born, .int .i64 c.room, .int .i64 c.hold, .string c.select, .slice a8 c.likes.length c8, .int .i64 c.apart, .string c.near, .string c.fixed, .string c.at_] 45)) := (Below.refl _ wr).alloc nL _
   have HX4 : Hid (Blk wr.heap.size #[.string c.name, .string c.service, .int .i64 c.rank, .int .i64 c.born, .int .i64 c.room, .int .i64 c.hold, .string c.select, .slice a8 c.likes.length c8, .int .i64 c.apart, .string c.near, .string c.fixed, .string c.at_] 45 (wr.alloc (Obj.cells #[.string c.name, .string c.service, .int .i64 c.rank, .int .i64 c.born, .int .i64 c.room, .int .i64 c.hold, .string c.select, .slice a8 c.likes.length c8, .int .i64 c.apart, .string c.near, .string c.fixed, .string c.at_] 45))) := Blk.alloc _ _ _
   have HI4 := iH (hI.out.below hbx)
   have HB4 : Hid (Below w.heap.size w (wr.alloc (Obj.cells #[.string c.name, .string c.service, .int .i64 c.rank, .int .i64 c.born, .int .i64 c.room, .int .i64 c.hold, .string c.select, .slice a8 c.likes.length c8, .int .i64 c.apart, .string c.near, .string c.fixed, .string c.at_] 45))) := hB.out.trans (hbx.mono hB.out.size)
   have hbk : w.heap.size + 1 + 1 < wr.heap.size := hI.out.2.2.lt
   clear HRA hbx hI hB p3
   generalize (wr.alloc (Obj.cells #[.string c.name, .string c.service, .int .i64 c.rank, .int .i64 c.born, .int .i64 c.room, .int .i64 c.hold, .string c.select, .slice a8 c.likes.length c8, .int .i64 c.apart, .string c.near, .string c.fixed, .string c.at_] 45)) = w4 at *
   have y0 : w4.cell? ⟨w.heap.size + 1, 0, none⟩ = some (.string y.name) := HI4.out.2.1.cell rfl
   have y1 : w4.cell? ⟨w.heap.size + 1, 1, none⟩ = some (.string y.service) := HI4.out.2.1.cell rfl
   have y8 : w4.cell? ⟨w.heap.size + 1, 8, none⟩ = some (.int .i64 y.apart) := HI4.out.2.1.cell rfl
   have y9 : w4.cell? ⟨w.heap.size + 1, 9, none⟩ = some (.string y.near) := HI4.out.2.1.cell rfl
   have zb0 : w4.cell? ⟨w.heap.size + 1 + 1, 0, none⟩ = some (.string b.name) := HI4.out.2.2.cell rfl
   have g0 : w4.cell? ⟨wr.heap.size, 0, none⟩ = some (.string c.name) := HX4.out.cell rfl
   have g1 : w4.cell? ⟨wr.heap.size, 1, none⟩ = some (.string c.service) := HX4.out.cell rfl
   have g4 : w4.cell? ⟨wr.heap.size, 4, none⟩ = some (.int .i64 c.room) := HX4.out.cell rfl
   have g5 : w4.cell? ⟨wr.heap.size, 5, none⟩ = some (.int .i64 c.hold) := HX4.out.cell rfl
   have g8 : w4.cell? ⟨wr.heap.size, 8, none⟩ = some (.int .i64 c.apart) := HX4.out.cell rfl
   have g11 : w4.cell? ⟨wr.heap.size, 11, none⟩ = some (.string c.at_) := HX4.out.cell rfl
   by_cases hnm : c.name = y.name
   ·have htn := bts_eq hnm
    have hkc := HSM.out.2 hnm
    have HTE : Hid (anyTo (togF x ci y b) (k + 1) = false) := (anyTo_no (tog_no HX.out (fun h => h.1 hkc))).trans hT.out
    clear hnm hkc
    go_wp2_with fail
    go_roundw
    case rel => first | exact ⟨k + 1, by omega, by go_num, HTE, HI4, HB4⟩ | ((repeat apply Exists.intro); exact ⟨⟨k + 1, by omega, by go_num, HTE, HI4, HB4⟩, rfl⟩)
    case measure => simp [intOf]; omega
   have htn := bts_ne hnm
   have hkc : k ≠ ci := fun h => hnm (HSM.out.1 h)
   clear hnm
   by_cases hsv : c.service = y.service
   rotate_left
   ·have hts := bts_ne hsv
    have HTE : Hid (anyTo (togF x ci y b) (k + 1) = false) := (anyTo_no (tog_no HX.out (fun h => hsv h.2.1))).trans hT.out
    clear hsv hkc
    go_wp2_with fail
    go_roundw
    case rel => first | exact ⟨k + 1, by omega, by go_num, HTE, HI4, HB4⟩ | ((repeat apply Exists.intro); exact ⟨⟨k + 1, by omega, by go_num, HTE, HI4, HB4⟩, rfl⟩)
    case measure => simp [intOf]; omega
   have hts := bts_eq hsv
   have HSV := iH hsv
   clear hsv
   by_cases hat : c.at_ = ⟨#[]⟩
   ·have hte := empty_toList hat
    have hte2 := isEmpty_of' hat
    have HTE : Hid (anyTo (togF x ci y b) (k + 1) = false) := (anyTo_no (tog_no HX.out (fun h => h.2.2.1 hat))).trans hT.out
    clear hat hkc
    go_wp2_with fail
    go_roundw
    case rel => first | exact ⟨k + 1, by omega, by go_num, HTE, HI4, HB4⟩ | ((repeat apply Exists.intro); exact ⟨⟨k + 1, by omega, by go_num, HTE, HI4, HB4⟩, rfl⟩)
    case measure => simp [intOf]; omega
   have hte := nonempty_toList hat
   have hte2 := isEmpty_not' hat
   have HAT := iH hat
   clear hat
   by_cases hab : c.at_ = b.name
   ·have hta := bts_eq hab
    have HAB := iH hab
    clear hab
    by_cases hca : c.apart = 0
    ·by_cases hya : y.apart = 0
     ·have HNH : Hid (¬ (decide (c.at_ = b.name) = true ∧ (c.apart ≠ 0 ∨ y.apart ≠ 0))) := fun k => k.2.elim (fun h => h hca) (fun h => h hya)
      obtain ⟨zz, hzz⟩ : ∃ zz, ((zoneOf x.berths c.at_).toList == b.zone.toList) = zz := ⟨_, rfl⟩
      go_upto_region 8 with fail
      clear y0 y1 y8 y9 zb0 g0 g1 g4 g5 g8 g11
      refine wp_region_held_drew (S := L3T w.heap.size x a1 c1 a2 c2 (some ⟨cb, co, none⟩) c3 y b wr.heap.size c) (by kernel_rfl) (HI4.out.drew.t (HX4.out.drew.cell rfl) (HX4.out.drew.cell rfl)) (fun hS => ?_)
      refine x0 0 53 (.agg #[.bool x.pack, .slice a1 x.berths.length c1, .slice a2 x.services.length c2, .slice (some ⟨cb, co, none⟩) x.copies.length c3]) rfl hS ?_
      simp only [pA,pB,pC,pD]
      refine x0 1 54 (.pointer (some ⟨wr.heap.size, 11, none⟩)) rfl hS ?_
      simp only [pA,pB,pC,pD]
      refine x0 2 55 (.string c.at_) rfl hS ?_
      simp only [pA,pB,pC,pD]
      refine x0 4 57 (.pointer (some ⟨w.heap.size + 1 + 1, 1, none⟩)) rfl hS ?_
      simp only [pA,pB,pC,pD]
      refine x0 5 58 (.string b.zone) rfl hS ?_
      simp only [pA,pB,pC,pD]
      refine rd1 3 ⟨some 56, _, _, _, _, none⟩ rfl (fun K hK => ?_)
      go_simp
      refine (zoneOf_any x a1 c1 a2 c2 (some ⟨cb, co, none⟩) c3 lo c.at_ _ (N1.out.below BrtC.holds HB4.out.drew nL) (by omega)).mono ?_
      rintro e w7 ⟨rfl, hb7⟩
      have hd7 : Below w4.heap.size w4 w7 := (Below.refl _ w4).drew.trans hb7
      have HB7 : Hid (Below w.heap.size w w7) := HB4.out.trans (hd7.mono HB4.out.size)
      have HI7 := iH (HI4.out.below hd7)
      have HX7 := iH (HX4.out.below hd7 HX4.out.lt)
      refine hK.out _ _ (HI7.out.t (HX7.out.cell rfl) (HX7.out.cell rfl)) (fun hS => ?_)
      clear hK K hb7 hd7
      refine x0 6 59 (.bool zz) rfl hS ?_
      simp only [pA,pB,pC,pD]
      refine x0 7 60 (.bool zz) rfl hS ?_
      simp only [pA,pB,pC,pD]
      cases zz with
      | false =>
       have hzo : ¬ zoneOf x.berths c.at_ = b.zone := fun h => by rw [bts_eq h] at hzz; cases hzz
       refine ts 8 61 rfl hS ?_
       simp only [pA,pB,pC,pD]
       refine ts 9 62 rfl hS ?_
       simp only [pA,pB,pC,pD]
       refine ts 10 63 rfl hS ?_
       simp only [pA,pB,pC,pD]
       refine ts 11 64 rfl hS ?_
       simp only [pA,pB,pC,pD]
       refine ts 12 65 rfl hS ?_
       simp only [pA,pB,pC,pD]
       refine ts 13 66 rfl hS ?_
       simp only [pA,pB,pC,pD]
       refine ts 14 67 rfl hS ?_
       simp only [pA,pB,pC,pD]
       refine ts 15 68 rfl hS ?_
       simp only [pA,pB,pC,pD]
       refine x0 16 69 (.bool false) rfl hS ?_
       simp only [pA,pB,pC,pD]
       refine td ?_
       clear hS
       have HTE : Hid (anyTo (togF x ci y b) (k + 1) = false) := (anyTo_no (tog_no HX.out (fun h => near_no HNH.out (fun k => hzo (of_decide_eq_true k.1)) h.2.2.2))).trans hT.out
       clear hzo hzz
       go_wp2_with fail
       go_roundw
       case rel => first | exact ⟨k + 1, by omega, by go_num, HTE, HI7, HB7⟩ | ((repeat apply Exists.intro); exact ⟨⟨k + 1, by omega, by go_num, HTE, HI7, HB7⟩, rfl⟩)
       case measure => simp [intOf]; omega
      | true =>
       have hzo : zoneOf x.berths c.at_ = b.zone := Classical.byContradiction fun h => by rw [bts_ne h] at hzz; cases hzz
       have HZO := iH hzo
       clear hzo hzz
       refine x0 8 61 (.pointer (some ⟨wr.heap.size, 8, none⟩)) rfl hS ?_
       simp only [pA,pB,pC,pD]
       refine x0 9 62 (.int .i64 c.apart) rfl hS ?_
       simp only [pA,pB,pC,pD]
       have hc2 : ¬ c.apart = 2 := by omega
       have hy2 : ¬ y.apart = 2 := by omega
       refine ty 10 ⟨some 63, _, _, _, _, some (7, true)⟩ (.bool false) rfl (by rfl) ?_ hS ?_
       ·intro wy hy
        obtain ⟨⟨y0, y1, y2, y3⟩, u1, u2, u3, u4⟩ := hy
        have e2 : ¬ c.apart = 2 := hc2
        go_simp
       simp only [pA,pB,pC,pD]
       refine x0 11 64 (.bool false) rfl hS ?_
       simp only [pA,pB,pC,pD]
       refine x0 12 65 (.pointer (some ⟨w.heap.size + 1, 8, none⟩)) rfl hS ?_
       simp only [pA,pB,pC,pD]
       refine x0 13 66 (.int .i64 y.apart) rfl hS ?_
       simp only [pA,pB,pC,pD]
       refine ty 14 ⟨some 67, _, _, _, _, some (11, false)⟩ (.bool false) rfl (by rfl) ?_ hS ?_
       ·intro wy hy
        obtain ⟨⟨y0, y1, y2, y3⟩, u1, u2, u3, u4⟩ := hy
        have e3 : ¬ y.apart = 2 := hy2
        go_simp
       simp only [pA,pB,pC,pD]
       refine x0 15 68 (.bool false) rfl hS ?_
       simp only [pA,pB,pC,pD]
       refine x0 16 69 (.bool false) rfl hS ?_
       simp only [pA,pB,pC,pD]
       refine td ?_
       clear hS
       have HTE : Hid (anyTo (togF x ci y b) (k + 1) = false) := (anyTo_no (tog_no HX.out (fun h => near_no HNH.out (fun k => k.2.elim hc2 hy2) h.2.2.2))).trans hT.out
       skip
       go_wp2_with fail
       go_roundw
       case rel => first | exact ⟨k + 1, by omega, by go_num, HTE, HI7, HB7⟩ | ((repeat apply Exists.intro); exact ⟨⟨k + 1, by omega, by go_num, HTE, HI7, HB7⟩, rfl⟩)
       case measure => simp [intOf]; omega
     ·skip
      have HTE : Hid (togI x ci y b = true) := anyTo_mono _ (show k + 1 ≤ x.copies.length by omega) (anyTo_yes (tog_yes HX.out hkc HSV.out HAT.out (near_yes1 (decide_eq_true HAB.out) (Or.inr hya))))
      skip
      go_wp2_with fail
      go_ret
      exact ⟨ret_bool HTE.out.symm, HB4.out⟩
    ·skip
     have HTE : Hid (togI x ci y b = true) := anyTo_mono _ (show k + 1 ≤ x.copies.length by omega) (anyTo_yes (tog_yes HX.out hkc HSV.out HAT.out (near_yes1 (decide_eq_true HAB.out) (Or.inl hca))))
     skip
     go_wp2_with fail
     go_ret
     exact ⟨ret_bool HTE.out.symm, HB4.out⟩
   ·have hta := bts_ne hab
    have HNH : Hid (¬ (decide (c.at_ = b.name) = true ∧ (c.apart ≠ 0 ∨ y.apart ≠ 0))) := fun k => hab (of_decide_eq_true k.1)
    clear hab
    obtain ⟨zz, hzz⟩ : ∃ zz, ((zoneOf x.berths c.at_).toList == b.zone.toList) = zz := ⟨_, rfl⟩
    go_upto_region 8 with fail
    clear y0 y1 y8 y9 zb0 g0 g1 g4 g5 g8 g11
    refine wp_region_held_drew (S := L3T w.heap.size x a1 c1 a2 c2 (some ⟨cb, co, none⟩) c3 y b wr.heap.size c) (by kernel_rfl) (HI4.out.drew.t (HX4.out.drew.cell rfl) (HX4.out.drew.cell rfl)) (fun hS => ?_)
    refine x0 0 53 (.agg #[.bool x.pack, .slice a1 x.berths.length c1, .slice a2 x.services.length c2, .slice (some ⟨cb, co, none⟩) x.copies.length c3]) rfl hS ?_
    simp only [pA,pB,pC,pD]
    refine x0 1 54 (.pointer (some ⟨wr.heap.size, 11, none⟩)) rfl hS ?_
    simp only [pA,pB,pC,pD]
    refine x0 2 55 (.string c.at_) rfl hS ?_
    simp only [pA,pB,pC,pD]
    refine x0 4 57 (.pointer (some ⟨w.heap.size + 1 + 1, 1, none⟩)) rfl hS ?_
    simp only [pA,pB,pC,pD]
    refine x0 5 58 (.string b.zone) rfl hS ?_
    simp only [pA,pB,pC,pD]
    refine rd1 3 ⟨some 56, _, _, _, _, none⟩ rfl (fun K hK => ?_)
    go_simp
    refine (zoneOf_any x a1 c1 a2 c2 (some ⟨cb, co, none⟩) c3 lo c.at_ _ (N1.out.below BrtC.holds HB4.out.drew nL) (by omega)).mono ?_
    rintro e w7 ⟨rfl, hb7⟩
    have hd7 : Below w4.heap.size w4 w7 := (Below.refl _ w4).drew.trans hb7
    have HB7 : Hid (Below w.heap.size w w7) := HB4.out.trans (hd7.mono HB4.out.size)
    have HI7 := iH (HI4.out.below hd7)
    have HX7 := iH (HX4.out.below hd7 HX4.out.lt)
    refine hK.out _ _ (HI7.out.t (HX7.out.cell rfl) (HX7.out.cell rfl)) (fun hS => ?_)
    clear hK K hb7 hd7
    refine x0 6 59 (.bool zz) rfl hS ?_
    simp only [pA,pB,pC,pD]
    refine x0 7 60 (.bool zz) rfl hS ?_
    simp only [pA,pB,pC,pD]
    cases zz with
    | false =>
     have hzo : ¬ zoneOf x.berths c.at_ = b.zone := fun h => by rw [bts_eq h] at hzz; cases hzz
     refine ts 8 61 rfl hS ?_
     simp only [pA,pB,pC,pD]
     refine ts 9 62 rfl hS ?_
     simp only [pA,pB,pC,pD]
     refine ts 10 63 rfl hS ?_
     simp only [pA,pB,pC,pD]
     refine ts 11 64 rfl hS ?_
     simp only [pA,pB,pC,pD]
     refine ts 12 65 rfl hS ?_
     simp only [pA,pB,pC,pD]
     refine ts 13 66 rfl hS ?_
     simp only [pA,pB,pC,pD]
     refine ts 14 67 rfl hS ?_
     simp only [pA,pB,pC,pD]
     refine ts 15 68 rfl hS ?_
     simp only [pA,pB,pC,pD]
     refine x0 16 69 (.bool false) rfl hS ?_
     simp only [pA,pB,pC,pD]
     refine td ?_
     clear hS
     have HTE : Hid (anyTo (togF x ci y b) (k + 1) = false) := (anyTo_no (tog_no HX.out (fun h => near_no HNH.out (fun k => hzo (of_decide_eq_true k.1)) h.2.2.2))).trans hT.out
     clear hzo hzz
     go_wp2_with fail
     go_roundw
     case rel => first | exact ⟨k + 1, by omega, by go_num, HTE, HI7, HB7⟩ | ((repeat apply Exists.intro); exact ⟨⟨k + 1, by omega, by go_num, HTE, HI7, HB7⟩, rfl⟩)
     case measure => simp [intOf]; omega
    | true =>
     have hzo : zoneOf x.berths c.at_ = b.zone := Classical.byContradiction fun h => by rw [bts_ne h] at hzz; cases hzz
     have HZO := iH hzo
     clear hzo hzz
     refine x0 8 61 (.pointer (some ⟨wr.heap.size, 8, none⟩)) rfl hS ?_
     simp only [pA,pB,pC,pD]
     refine x0 9 62 (.int .i64 c.apart) rfl hS ?_
     simp only [pA,pB,pC,pD]
     by_cases hc2 : c.apart = 2
     ·skip
      refine ty 10 ⟨some 63, _, _, _, _, some (7, true)⟩ (.bool true) rfl (by rfl) ?_ hS ?_
      ·intro wy hy
       obtain ⟨⟨y0, y1, y2, y3⟩, u1, u2, u3, u4⟩ := hy
       have e2 := hc2
       go_simp
      simp only [pA,pB,pC,pD]
      refine x0 11 64 (.bool true) rfl hS ?_
      simp only [pA,pB,pC,pD]
      refine ts 12 65 rfl hS ?_
      simp only [pA,pB,pC,pD]
      refine ts 13 66 rfl hS ?_
      simp only [pA,pB,pC,pD]
      refine ts 14 67 rfl hS ?_
      simp only [pA,pB,pC,pD]
      refine x0 15 68 (.bool true) rfl hS ?_
      simp only [pA,pB,pC,pD]
      refine x0 16 69 (.bool true) rfl hS ?_
      simp only [pA,pB,pC,pD]
      refine td ?_
      clear hS
      have HTE : Hid (togI x ci y b = true) := anyTo_mono _ (show k + 1 ≤ x.copies.length by omega) (anyTo_yes (tog_yes HX.out hkc HSV.out HAT.out (near_yes2 (decide_eq_true HZO.out) (Or.inl hc2))))
      skip
      go_wp2_with fail
      go_ret
      exact ⟨ret_bool HTE.out.symm, HB7.out⟩
     ·skip
      refine ty 10 ⟨some 63, _, _, _, _, some (7, true)⟩ (.bool false) rfl (by rfl) ?_ hS ?_
      ·intro wy hy
       obtain ⟨⟨y0, y1, y2, y3⟩, u1, u2, u3, u4⟩ := hy
       have e2 : ¬ c.apart = 2 := hc2
       go_simp
      simp only [pA,pB,pC,pD]
      refine x0 11 64 (.bool false) rfl hS ?_
      simp only [pA,pB,pC,pD]
      refine x0 12 65 (.pointer (some ⟨w.heap.size + 1, 8, none⟩)) rfl hS ?_
      simp only [pA,pB,pC,pD]
      refine x0 13 66 (.int .i64 y.apart) rfl hS ?_
      simp only [pA,pB,pC,pD]
      by_cases hy2 : y.apart = 2
      ·skip
       refine ty 14 ⟨some 67, _, _, _, _, some (11, false)⟩ (.bool true) rfl (by rfl) ?_ hS ?_
       ·intro wy hy
        obtain ⟨⟨y0, y1, y2, y3⟩, u1, u2, u3, u4⟩ := hy
        have e3 : y.apart = 2 := hy2
        go_simp
       simp only [pA,pB,pC,pD]
       refine x0 15 68 (.bool true) rfl hS ?_
       simp only [pA,pB,pC,pD]
       refine x0 16 69 (.bool true) rfl hS ?_
       simp only [pA,pB,pC,pD]
       refine td ?_
       clear hS
       have HTE : Hid (togI x ci y b = true) := anyTo_mono _ (show k + 1 ≤ x.copies.length by omega) (anyTo_yes (tog_yes HX.out hkc HSV.out HAT.out (near_yes2 (decide_eq_true HZO.out) (Or.inr hy2))))
       skip
       go_wp2_with fail
       go_ret
       exact ⟨ret_bool HTE.out.symm, HB7.out⟩
      ·skip
       refine ty 14 ⟨some 67, _, _, _, _, some (11, false)⟩ (.bool false) rfl (by rfl) ?_ hS ?_
       ·intro wy hy
        obtain ⟨⟨y0, y1, y2, y3⟩, u1, u2, u3, u4⟩ := hy
        have e3 : ¬ y.apart = 2 := hy2
        go_simp
       simp only [pA,pB,pC,pD]
       refine x0 15 68 (.bool false) rfl hS ?_
       simp only [pA,pB,pC,pD]
       refine x0 16 69 (.bool false) rfl hS ?_
       simp only [pA,pB,pC,pD]
       refine td ?_
       clear hS
       have HTE : Hid (anyTo (togF x ci y b) (k + 1) = false) := (anyTo_no (tog_no HX.out (fun h => near_no HNH.out (fun k => k.2.elim hc2 hy2) h.2.2.2))).trans hT.out
       skip
       go_wp2_with fail
       go_roundw
       case rel => first | exact ⟨k + 1, by omega, by go_num, HTE, HI7, HB7⟩ | ((repeat apply Exists.intro); exact ⟨⟨k + 1, by omega, by go_num, HTE, HI7, HB7⟩, rfl⟩)
       case measure => simp [intOf]; omega
  ·have hke : k = x.copies.length := by omega
   subst hke
   have HTE : Hid (togI x ci y b = false) := hT.out
   go_wp2_with fail
   go_ret
   exact ⟨ret_bool HTE.out.symm, hB.out⟩
end Go.Proofs.YtebfdgfhadpieaaGreat
