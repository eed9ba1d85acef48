import Derived.Test.YtebfdgfhadpieaaGreatJ35
namespace Go.Proofs.YtebfdgfhadpieaaGreat
open Go.RowKit Go.WideMaps Go.Maps
def L4In (B : Nat) (x : Flt) (a1 : Option Addr) (c1 : Nat) (a2 : Option Addr) (c2 : Nat) (a3 : Option Addr) (c3 : Nat) (y : Cpy) (a7 : Option Addr) (c7 : Nat) (b : Brt) (am : Option Addr) (cm : Nat) (w : World) : Prop :=
 Blk B #[.bool x.pack, .slice a1 x.berths.length c1, .slice a2 x.services.length c2, .slice a3 x.copies.length c3] 33 w ∧ Blk (B + 1) #[.string y.name, .string y.service, .int .i64 y.rank, .int .i64 y.born, .int .i64 y.room, .int .i64 y.hold, .string y.select, .slice a7 y.likes.length c7, .int .i64 y.apart, .string y.near, .string y.fixed, .string y.at_] 45 w ∧ Blk (B + 1 + 1) #[.string b.name, .string b.zone, .slice am b.marks.length cm, .int .i64 b.room, .int .i64 b.hold, .bool b.closed] 61 w ∧ Blk (B + 1 + 1 + 1) #[.int .i64 (0), .int .i64 (0), .int .i64 (0), .int .i64 (0)] 84 w
theorem L4In.below {B : Nat} {x : Flt} {a1 : Option Addr} {c1 : Nat} {a2 : Option Addr} {c2 : Nat} {a3 : Option Addr} {c3 : Nat} {y : Cpy} {a7 : Option Addr} {c7 : Nat} {b : Brt} {am : Option Addr} {cm : Nat} {w w' : World} (h : L4In B x a1 c1 a2 c2 a3 c3 y a7 c7 b am cm w) (hb : Below w.heap.size w w') : L4In B x a1 c1 a2 c2 a3 c3 y a7 c7 b am cm w' :=
 ⟨h.1.below hb h.1.lt, h.2.1.below hb h.2.1.lt, h.2.2.1.below hb h.2.2.1.lt, h.2.2.2.below hb h.2.2.2.lt⟩
theorem L4In.set {B : Nat} {x : Flt} {a1 : Option Addr} {c1 : Nat} {a2 : Option Addr} {c2 : Nat} {a3 : Option Addr} {c3 : Nat} {y : Cpy} {a7 : Option Addr} {c7 : Nat} {b : Brt} {am : Option Addr} {cm : Nat} {w : World} (h : L4In B x a1 c1 a2 c2 a3 c3 y a7 c7 b am cm w) (o : Nat) (v : Value) : L4In B x a1 c1 a2 c2 a3 c3 y a7 c7 b am cm (w.setCell ⟨B + 1 + 1 + 1 + 1, o, none⟩ v) :=
 ⟨h.1.other (by show B ≠ B + 1 + 1 + 1 + 1; omega) v, h.2.1.other (by show B + 1 ≠ B + 1 + 1 + 1 + 1; omega) v, h.2.2.1.other (by show B + 1 + 1 ≠ B + 1 + 1 + 1 + 1; omega) v, h.2.2.2.other (by show B + 1 + 1 + 1 ≠ B + 1 + 1 + 1 + 1; omega) v⟩
theorem L4In.drew {B : Nat} {x : Flt} {a1 : Option Addr} {c1 : Nat} {a2 : Option Addr} {c2 : Nat} {a3 : Option Addr} {c3 : Nat} {y : Cpy} {a7 : Option Addr} {c7 : Nat} {b : Brt} {am : Option Addr} {cm : Nat} {w : World} (h : L4In B x a1 c1 a2 c2 a3 c3 y a7 c7 b am cm w) : L4In B x a1 c1 a2 c2 a3 c3 y a7 c7 b am cm w.drew := h
theorem L4In.flt {B : Nat} {x : Flt} {a1 : Option Addr} {c1 : Nat} {a2 : Option Addr} {c2 : Nat} {a3 : Option Addr} {c3 : Nat} {y : Cpy} {a7 : Option Addr} {c7 : Nat} {b : Brt} {am : Option Addr} {cm : Nat} {w : World} (h : L4In B x a1 c1 a2 c2 a3 c3 y a7 c7 b am cm w) : FltIn B x a1 c1 a2 c2 a3 c3 w := ⟨h.1.cell rfl, h.1.cell rfl, h.1.cell rfl, h.1.cell rfl⟩
def L4R (B : Nat) (y : Cpy) (a7 : Option Addr) (c7 : Nat) (b : Brt) (am : Option Addr) (cm : Nat) (sb so : Nat) (s : ByteArray) (w : World) : Prop :=
 w.cell? ⟨B + 1, 7, none⟩ = some (.slice a7 y.likes.length c7) ∧ w.cell? ⟨B + 1 + 1, 0, none⟩ = some (.string b.name) ∧ w.cell? ⟨B + 1 + 1, 1, none⟩ = some (.string b.zone) ∧ w.cell? ⟨B + 1 + 1, 2, none⟩ = some (.slice am b.marks.length cm) ∧ w.cell? ⟨B + 1 + 1, 3, none⟩ = some (.int .i64 b.room) ∧ w.cell? ⟨B + 1 + 1, 4, none⟩ = some (.int .i64 b.hold) ∧ w.cell? ⟨B + 1 + 1, 5, none⟩ = some (.bool b.closed) ∧ w.cell? ⟨sb, so, none⟩ = some (.string s)
theorem L4In.r {B : Nat} {x : Flt} {a1 : Option Addr} {c1 : Nat} {a2 : Option Addr} {c2 : Nat} {a3 : Option Addr} {c3 : Nat} {y : Cpy} {a7 : Option Addr} {c7 : Nat} {b : Brt} {am : Option Addr} {cm : Nat} {w : World} (h : L4In B x a1 c1 a2 c2 a3 c3 y a7 c7 b am cm w) {sb so : Nat} {s : ByteArray} (hs : w.cell? ⟨sb, so, none⟩ = some (.string s)) : L4R B y a7 c7 b am cm sb so s w :=
 ⟨h.2.1.cell rfl, h.2.2.1.cell rfl, h.2.2.1.cell rfl, h.2.2.1.cell rfl, h.2.2.1.cell rfl, h.2.2.1.cell rfl, h.2.2.1.cell rfl, hs⟩
def L4T (B : Nat) (x : Flt) (a1 : Option Addr) (c1 : Nat) (a2 : Option Addr) (c2 : Nat) (a3 : Option Addr) (c3 : Nat) (y : Cpy) (b : Brt) (g : Nat) (c : Cpy) (w : World) : Prop :=
 FltIn B x a1 c1 a2 c2 a3 c3 w ∧ w.cell? ⟨g, 1, none⟩ = some (.string c.service) ∧ w.cell? ⟨B + 1, 1, none⟩ = some (.string y.service) ∧ w.cell? ⟨g, 11, none⟩ = some (.string c.at_) ∧ w.cell? ⟨B + 1 + 1, 1, none⟩ = some (.string b.zone)
theorem L4In.t {B : Nat} {x : Flt} {a1 : Option Addr} {c1 : Nat} {a2 : Option Addr} {c2 : Nat} {a3 : Option Addr} {c3 : Nat} {y : Cpy} {a7 : Option Addr} {c7 : Nat} {b : Brt} {am : Option Addr} {cm : Nat} {w : World} (h : L4In B x a1 c1 a2 c2 a3 c3 y a7 c7 b am cm w) {g : Nat} {c : Cpy} (h1 : w.cell? ⟨g, 1, none⟩ = some (.string c.service)) (h2 : w.cell? ⟨g, 11, none⟩ = some (.string c.at_)) : L4T B x a1 c1 a2 c2 a3 c3 y b g c w :=
 ⟨h.flt, h1, h.2.1.cell rfl, h2, h.2.2.1.cell rfl⟩
theorem isz_Score : (Tryz.prog.info? 84).map (·.size) = some 4 := by kernel_rfl
theorem ret_agg4 {l l' z z' n n' f f' : Int} (h1 : l = l') (h2 : z = z') (h3 : n = n') (h4 : f = f') : Ending.returned (.agg #[.int .i64 l, .int .i64 z, .int .i64 n, .int .i64 f]) = .returned (.agg #[.int .i64 l', .int .i64 z', .int .i64 n', .int .i64 f']) := by
 subst h1 h2 h3 h4
 rfl
set_option maxHeartbeats 4000000 in
set_option maxRecDepth 100000 in
theorem l4Score_any (x : Flt) (a1 : Option Addr) (c1 : Nat) (a2 : Option Addr) (c2 : Nat) (a3 : Option Addr) (c3 : Nat) (lo : Nat) (ci : Nat) (y : Cpy) (a7 : Option Addr) (c7 : Nat) (b : Brt) (am : Option Addr) (cm : Nat) (w : World) (n1 : SliceC BrtC 6 lo w a1 x.berths) (n3 : SliceC CpyC 12 lo w a3 x.copies) (n7 : SliceC LikC 2 lo w a7 y.likes) (nm : SliceC StrC 1 lo w am b.marks)
  (hci : x.copies[ci]? = some y) (hbn : ¬ b.name = ⟨#[]⟩) (hml : b.marks.length ≤ 1000) (hz : b.zone.size ≤ 1000) (hv : validI x = true) (hbr : 0 ≤ b.room ∧ b.room ≤ 1000) :
  Calls Tryz.prog 37 #[.agg #[.bool x.pack, .slice a1 x.berths.length c1, .slice a2 x.services.length c2, .slice a3 x.copies.length c3], .agg #[.string y.name, .string y.service, .int .i64 y.rank, .int .i64 y.born, .int .i64 y.room, .int .i64 y.hold, .string y.select, .slice a7 y.likes.length c7, .int .i64 y.apart, .string y.near, .string y.fixed, .string y.at_], .agg #[.string b.name, .string b.zone, .slice am b.marks.length cm, .int .i64 b.room, .int .i64 b.hold, .bool b.closed]] w fun e w' => e = .returned (.agg #[.int .i64 (likeTo (fun t => selS t b.marks b.zone) y.likes y.likes.length), .int .i64 (((cntTo (znF x ci y.service b.zone) x.copies.length : Nat) : Int)), .int .i64 (((cntTo (bthF x ci y.service b.name) x.copies.length : Nat) : Int)), .int .i64 (b.room - y.room - roomTo x ci b.name x.copies.length)]) ∧ Below w.heap.size w w' := by
 have N1 := iH n1
 have N3 := iH n3
 have N7 := iH n7
 have NM := iH nm
 have HCI := iH hci
 have HBN := iH hbn
 obtain ⟨l2, l3, _, hcN, _, _⟩ := valid_parts hv
 obtain ⟨l1, _, _, hcp⟩ := valid_more hv
 obtain ⟨hyr, hlk, _⟩ := hcp ci y hci
 obtain ⟨hll, hlw⟩ := likes_parts hlk
 have HLW := iH hlw
 have HCN := iH hcN
 have HCP : Hid (∀ (k : Nat) (c : Cpy), x.copies[k]? = some c → 0 ≤ c.room ∧ c.room ≤ 1000) := fun k c h => (hcp k c h).1
 obtain ⟨hb0, hb1⟩ := hbr
 obtain ⟨hy0, hy1⟩ := hyr
 clear n1 n3 n7 nm hci hbn hcN hcp hlk hlw hv
 go_enter Tryz.func37, Tryz.ntmps37
 go_wp2_with fail
 have e0_0 : Blk (w.heap.size) #[.bool x.pack, .slice a1 x.berths.length c1, .slice a2 x.services.length c2, .slice a3 x.copies.length c3] 33 (w.alloc (Obj.cells #[.bool x.pack, .slice a1 x.berths.length c1, .slice a2 x.services.length c2, .slice a3 x.copies.length c3] 33)) := by
  have h := Blk.alloc w #[.bool x.pack, .slice a1 x.berths.length c1, .slice a2 x.services.length c2, .slice a3 x.copies.length c3] 33
  simpa using h
 have e0_1 := e0_0.below ((Below.refl _ (w.alloc (Obj.cells #[.bool x.pack, .slice a1 x.berths.length c1, .slice a2 x.services.length c2, .slice a3 x.copies.length c3] 33))).alloc nL (Obj.cells #[.string y.name, .string y.service, .int .i64 y.rank, .int .i64 y.born, .int .i64 y.room, .int .i64 y.hold, .string y.select, .slice a7 y.likes.length c7, .int .i64 y.apart, .string y.near, .string y.fixed, .string y.at_] 45)) e0_0.lt
 have e0_2 := e0_1.below ((Below.refl _ ((w.alloc (Obj.cells #[.bool x.pack, .slice a1 x.berths.length c1, .slice a2 x.services.length c2, .slice a3 x.copies.length c3] 33)).alloc (Obj.cells #[.string y.name, .string y.service, .int .i64 y.rank, .int .i64 y.born, .int .i64 y.room, .int .i64 y.hold, .string y.select, .slice a7 y.likes.length c7, .int .i64 y.apart, .string y.near, .string y.fixed, .string y.at_] 45))).alloc nL (Obj.cells #[.string b.name, .string b.zone, .slice am b.marks.length cm, .int .i64 b.room, .int .i64 b.hold, .bool b.closed] 61)) e0_1.lt
 have e0_3 := e0_2.below ((Below.refl _ (((w.alloc (Obj.cells #[.bool x.pack, .slice a1 x.berths.length c1, .slice a2 x.services.length c2, .slice a3 x.copies.length c3] 33)).alloc (Obj.cells #[.string y.name, .string y.service, .int .i64 y.rank, .int .i64 y.born, .int .i64 y.room, .int .i64 y.hold, .string y.select, .slice a7 y.likes.length c7, .int .i64 y.apart, .string y.near, .string y.fixed, .string y.at_] 45)).alloc (Obj.cells #[.string b.name, .string b.zone, .slice am b.marks.length cm, .int .i64 b.room, .int .i64 b.hold, .bool b.closed] 61))).alloc nL (Obj.cells #[.int .i64 (0), .int .i64 (0), .int .i64 (0), .int .i64 (0)] 84)) e0_2.lt
 have e0_4 := e0_3.below ((Below.refl _ ((((w.alloc (Obj.cells #[.bool x.pack, .slice a1 x.berths.length c1, .slice a2 x.services.length c2, .slice a3 x.copies.length c3] 33)).alloc (Obj.cells #[.string y.name, .string y.service, .int .i64 y.rank, .int .i64 y.born, .int .i64 y.room, .int .i64 y.hold, .string y.select, .slice a7 y.likes.length c7, .int .i64 y.apart, .string y.near, .string y.fixed, .string y.at_] 45)).alloc (Obj.cells #[.string b.name, .string b.zone, .slice am b.marks.length cm, .int .i64 b.room, .int .i64 b.hold, .bool b.closed] 61)).alloc (Obj.cells #[.int .i64 (0), .int .i64 (0), .int .i64 (0), .int .i64 (0)] 84))).alloc nL (Obj.cells #[.int .i64 (0), .int .i64 (0), .int .i64 (0), .int .i64 (b.room - y.room)] 84)) e0_3.lt
 have e1_0 : Blk (w.heap.size + 1) #[.string y.name, .string y.service, .int .i64 y.rank, .int .i64 y.born, .int .i64 y.room, .int .i64 y.hold, .string y.select, .slice a7 y.likes.length c7, .int .i64 y.apart, .string y.near, .string y.fixed, .string y.at_] 45 ((w.alloc (Obj.cells #[.bool x.pack, .slice a1 x.berths.length c1, .slice a2 x.services.length c2, .slice a3 x.copies.length c3] 33)).alloc (Obj.cells #[.string y.name, .string y.service, .int .i64 y.rank, .int .i64 y.born, .int .i64 y.room, .int .i64 y.hold, .string y.select, .slice a7 y.likes.length c7, .int .i64 y.apart, .string y.near, .string y.fixed, .string y.at_] 45)) := by
  have h := Blk.alloc (w.alloc (Obj.cells #[.bool x.pack, .slice a1 x.berths.length c1, .slice a2 x.services.length c2, .slice a3 x.copies.length c3] 33)) #[.string y.name, .string y.service, .int .i64 y.rank, .int .i64 y.born, .int .i64 y.room, .int .i64 y.hold, .string y.select, .slice a7 y.likes.length c7, .int .i64 y.apart, .string y.near, .string y.fixed, .string y.at_] 45
  simpa using h
 have e1_2 := e1_0.below ((Below.refl _ ((w.alloc (Obj.cells #[.bool x.pack, .slice a1 x.berths.length c1, .slice a2 x.services.length c2, .slice a3 x.copies.length c3] 33)).alloc (Obj.cells #[.string y.name, .string y.service, .int .i64 y.rank, .int .i64 y.born, .int .i64 y.room, .int .i64 y.hold, .string y.select, .slice a7 y.likes.length c7, .int .i64 y.apart, .string y.near, .string y.fixed, .string y.at_] 45))).alloc nL (Obj.cells #[.string b.name, .string b.zone, .slice am b.marks.length cm, .int .i64 b.room, .int .i64 b.hold, .bool b.closed] 61)) e1_0.lt
 have e1_3 := e1_2.below ((Below.refl _ (((w.alloc (Obj.cells #[.bool x.pack, .slice a1 x.berths.length c1, .slice a2 x.services.length c2, .slice a3 x.copies.length c3] 33)).alloc (Obj.cells #[.string y.name, .string y.service, .int .i64 y.rank, .int .i64 y.born, .int .i64 y.room, .int .i64 y.hold, .string y.select, .slice a7 y.likes.length c7, .int .i64 y.apart, .string y.near, .string y.fixed, .string y.at_] 45)).alloc (Obj.cells #[.string b.name, .string b.zone, .slice am b.marks.length cm, .int .i64 b.room, .int .i64 b.hold, .bool b.closed] 61))).alloc nL (Obj.cells #[.int .i64 (0), .int .i64 (0), .int .i64 (0), .int .i64 (0)] 84)) e1_2.lt
 have e1_4 := e1_3.below ((Below.refl _ ((((w.alloc (Obj.cells #[.bool x.pack, .slice a1 x.berths.length c1, .slice a2 x.services.length c2, .slice a3 x.copies.length c3] 33)).alloc (Obj.cells #[.string y.name, .string y.service, .int .i64 y.rank, .int .i64 y.born, .int .i64 y.room, .int .i64 y.hold, .string y.select, .slice a7 y.likes.length c7, .int .i64 y.apart, .string y.near, .string y.fixed, .string y.at_] 45)).alloc (Obj.cells #[.string b.name, .string b.zone, .slice am b.marks.length cm, .int .i64 b.room, .int .i64 b.hold, .bool b.closed] 61)).alloc (Obj.cells #[.int .i64 (0), .int .i64 (0), .int .i64 (0), .int .i64 (0)] 84))).alloc nL (Obj.cells #[.int .i64 (0), .int .i64 (0), .int .i64 (0), .int .i64 (b.room - y.room)] 84)) e1_3.lt
 have e2_0 : Blk (w.heap.size + 1 + 1) #[.string b.name, .string b.zone, .slice am b.marks.length cm, .int .i64 b.room, .int .i64 b.hold, .bool b.closed] 61 (((w.alloc (Obj.cells #[.bool x.pack, .slice a1 x.berths.length c1, .slice a2 x.services.length c2, .slice a3 x.copies.length c3] 33)).alloc (Obj.cells #[.string y.name, .string y.service, .int .i64 y.rank, .int .i64 y.born, .int .i64 y.room, .int .i64 y.hold, .string y.select, .slice a7 y.likes.length c7, .int .i64 y.apart, .string y.near, .string y.fixed, .string y.at_] 45)).alloc (Obj.cells #[.string b.name, .string b.zone, .slice am b.marks.length cm, .int .i64 b.room, .int .i64 b.hold, .bool b.closed] 61)) := by
  have h := Blk.alloc ((w.alloc (Obj.cells #[.bool x.pack, .slice a1 x.berths.length c1, .slice a2 x.services.length c2, .slice a3 x.copies.length c3] 33)).alloc (Obj.cells #[.string y.name, .string y.service, .int .i64 y.rank, .int .i64 y.born, .int .i64 y.room, .int .i64 y.hold, .string y.select, .slice a7 y.likes.length c7, .int .i64 y.apart, .string y.near, .string y.fixed, .string y.at_] 45)) #[.string b.name, .string b.zone, .slice am b.marks.length cm, .int .i64 b.room, .int .i64 b.hold, .bool b.closed] 61
  simpa using h
 have e2_3 := e2_0.below ((Below.refl _ (((w.alloc (Obj.cells #[.bool x.pack, .slice a1 x.berths.length c1, .slice a2 x.services.length c2, .slice a3 x.copies.length c3] 33)).alloc (Obj.cells #[.string y.name, .string y.service, .int .i64 y.rank, .int .i64 y.born, .int .i64 y.room, .int .i64 y.hold, .string y.select, .slice a7 y.likes.length c7, .int .i64 y.apart, .string y.near, .string y.fixed, .string y.at_] 45)).alloc (Obj.cells #[.string b.name, .string b.zone, .slice am b.marks.length cm, .int .i64 b.room, .int .i64 b.hold, .bool b.closed] 61))).alloc nL (Obj.cells #[.int .i64 (0), .int .i64 (0), .int .i64 (0), .int .i64 (0)] 84)) e2_0.lt
 have e2_4 := e2_3.below ((Below.refl _ ((((w.alloc (Obj.cells #[.bool x.pack, .slice a1 x.berths.length c1, .slice a2 x.services.length c2, .slice a3 x.copies.length c3] 33)).alloc (Obj.cells #[.string y.name, .string y.service, .int .i64 y.rank, .int .i64 y.born, .int .i64 y.room, .int .i64 y.hold, .string y.select, .slice a7 y.likes.length c7, .int .i64 y.apart, .string y.near, .string y.fixed, .string y.at_] 45)).alloc (Obj.cells #[.string b.name, .string b.zone, .slice am b.marks.length cm, .int .i64 b.room, .int .i64 b.hold, .bool b.closed] 61)).alloc (Obj.cells #[.int .i64 (0), .int .i64 (0), .int .i64 (0), .int .i64 (0)] 84))).alloc nL (Obj.cells #[.int .i64 (0), .int .i64 (0), .int .i64 (0), .int .i64 (b.room - y.room)] 84)) e2_3.lt
 have e3_0 : Blk (w.heap.size + 1 + 1 + 1) #[.int .i64 (0), .int .i64 (0), .int .i64 (0), .int .i64 (0)] 84 ((((w.alloc (Obj.cells #[.bool x.pack, .slice a1 x.berths.length c1, .slice a2 x.services.length c2, .slice a3 x.copies.length c3] 33)).alloc (Obj.cells #[.string y.name, .string y.service, .int .i64 y.rank, .int .i64 y.born, .int .i64 y.room, .int .i64 y.hold, .string y.select, .slice a7 y.likes.length c7, .int .i64 y.apart, .string y.near, .string y.fixed, .string y.at_] 45)).alloc (Obj.cells #[.string b.name, .string b.zone, .slice am b.marks.length cm, .int .i64 b.room, .int .i64 b.hold, .bool b.closed] 61)).alloc (Obj.cells #[.int .i64 (0), .int .i64 (0), .int .i64 (0), .int .i64 (0)] 84)) := by
  have h := Blk.alloc (((w.alloc (Obj.cells #[.bool x.pack, .slice a1 x.berths.length c1, .slice a2 x.services.length c2, .slice a3 x.copies.length c3] 33)).alloc (Obj.cells #[.string y.name, .string y.service, .int .i64 y.rank, .int .i64 y.born, .int .i64 y.room, .int .i64 y.hold, .string y.select, .slice a7 y.likes.length c7, .int .i64 y.apart, .string y.near, .string y.fixed, .string y.at_] 45)).alloc (Obj.cells #[.string b.name, .string b.zone, .slice am b.marks.length cm, .int .i64 b.room, .int .i64 b.hold, .bool b.closed] 61)) #[.int .i64 (0), .int .i64 (0), .int .i64 (0), .int .i64 (0)] 84
  simpa using h
 have e3_4 := e3_0.below ((Below.refl _ ((((w.alloc (Obj.cells #[.bool x.pack, .slice a1 x.berths.length c1, .slice a2 x.services.length c2, .slice a3 x.copies.length c3] 33)).alloc (Obj.cells #[.string y.name, .string y.service, .int .i64 y.rank, .int .i64 y.born, .int .i64 y.room, .int .i64 y.hold, .string y.select, .slice a7 y.likes.length c7, .int .i64 y.apart, .string y.near, .string y.fixed, .string y.at_] 45)).alloc (Obj.cells #[.string b.name, .string b.zone, .slice am b.marks.length cm, .int .i64 b.room, .int .i64 b.hold, .bool b.closed] 61)).alloc (Obj.cells #[.int .i64 (0), .int .i64 (0), .int .i64 (0), .int .i64 (0)] 84))).alloc nL (Obj.cells #[.int .i64 (0), .int .i64 (0), .int .i64 (0), .int .i64 (b.room - y.room)] 84)) e3_0.lt
 have e4_0 : Blk (w.heap.size + 1 + 1 + 1 + 1) #[.int .i64 (0), .int .i64 (0), .int .i64 (0), .int .i64 (b.room - y.room)] 84 (((((w.alloc (Obj.cells #[.bool x.pack, .slice a1 x.berths.length c1, .slice a2 x.services.length c2, .slice a3 x.copies.length c3] 33)).alloc (Obj.cells #[.string y.name, .string y.service, .int .i64 y.rank, .int .i64 y.born, .int .i64 y.room, .int .i64 y.hold, .string y.select, .slice a7 y.likes.length c7, .int .i64 y.apart, .string y.near, .string y.fixed, .string y.at_] 45)).alloc (Obj.cells #[.string b.name, .string b.zone, .slice am b.marks.length cm, .int .i64 b.room, .int .i64 b.hold, .bool b.closed] 61)).alloc (Obj.cells #[.int .i64 (0), .int .i64 (0), .int .i64 (0), .int .i64 (0)] 84)).alloc (Obj.cells #[.int .i64 (0), .int .i64 (0), .int .i64 (0), .int .i64 (b.room - y.room)] 84)) := by
  have h := Blk.alloc ((((w.alloc (Obj.cells #[.bool x.pack, .slice a1 x.berths.length c1, .slice a2 x.services.length c2, .slice a3 x.copies.length c3] 33)).alloc (Obj.cells #[.string y.name, .string y.service, .int .i64 y.rank, .int .i64 y.born, .int .i64 y.room, .int .i64 y.hold, .string y.select, .slice a7 y.likes.length c7, .int .i64 y.apart, .string y.near, .string y.fixed, .string y.at_] 45)).alloc (Obj.cells #[.string b.name, .string b.zone, .slice am b.marks.length cm, .int .i64 b.room, .int .i64 b.hold, .bool b.closed] 61)).alloc (Obj.cells #[.int .i64 (0), .int .i64 (0), .int .i64 (0), .int .i64 (0)] 84)) #[.int .i64 (0), .int .i64 (0), .int .i64 (0), .int .i64 (b.room - y.room)] 84
  simpa using h
 have HI0 : Hid (L4In w.heap.size x a1 c1 a2 c2 a3 c3 y a7 c7 b am cm (((((w.alloc (Obj.cells #[.bool x.pack, .slice a1 x.berths.length c1, .slice a2 x.services.length c2, .slice a3 x.copies.length c3] 33)).alloc (Obj.cells #[.string y.name, .string y.service, .int .i64 y.rank, .int .i64 y.born, .int .i64 y.room, .int .i64 y.hold, .string y.select, .slice a7 y.likes.length c7, .int .i64 y.apart, .string y.near, .string y.fixed, .string y.at_] 45)).alloc (Obj.cells #[.string b.name, .string b.zone, .slice am b.marks.length cm, .int .i64 b.room, .int .i64 b.hold, .bool b.closed] 61)).alloc (Obj.cells #[.int .i64 (0), .int .i64 (0), .int .i64 (0), .int .i64 (0)] 84)).alloc (Obj.cells #[.int .i64 (0), .int .i64 (0), .int .i64 (0), .int .i64 (b.room - y.room)] 84))) := ⟨e0_4, e1_4, e2_4, e3_4⟩
 have HO0 : Hid (Blk (w.heap.size + 1 + 1 + 1 + 1) #[.int .i64 (0), .int .i64 (0), .int .i64 (0), .int .i64 (b.room - y.room)] 84 (((((w.alloc (Obj.cells #[.bool x.pack, .slice a1 x.berths.length c1, .slice a2 x.services.length c2, .slice a3 x.copies.length c3] 33)).alloc (Obj.cells #[.string y.name, .string y.service, .int .i64 y.rank, .int .i64 y.born, .int .i64 y.room, .int .i64 y.hold, .string y.select, .slice a7 y.likes.length c7, .int .i64 y.apart, .string y.near, .string y.fixed, .string y.at_] 45)).alloc (Obj.cells #[.string b.name, .string b.zone, .slice am b.marks.length cm, .int .i64 b.room, .int .i64 b.hold, .bool b.closed] 61)).alloc (Obj.cells #[.int .i64 (0), .int .i64 (0), .int .i64 (0), .int .i64 (0)] 84)).alloc (Obj.cells #[.int .i64 (0), .int .i64 (0), .int .i64 (0), .int .i64 (b.room - y.room)] 84))) := e4_0
 have HB0 : Hid (Below w.heap.size w (((((w.alloc (Obj.cells #[.bool x.pack, .slice a1 x.berths.length c1, .slice a2 x.services.length c2, .slice a3 x.copies.length c3] 33)).alloc (Obj.cells #[.string y.name, .string y.service, .int .i64 y.rank, .int .i64 y.born, .int .i64 y.room, .int .i64 y.hold, .string y.select, .slice a7 y.likes.length c7, .int .i64 y.apart, .string y.near, .string y.fixed, .string y.at_] 45)).alloc (Obj.cells #[.string b.name, .string b.zone, .slice am b.marks.length cm, .int .i64 b.room, .int .i64 b.hold, .bool b.closed] 61)).alloc (Obj.cells #[.int .i64 (0), .int .i64 (0), .int .i64 (0), .int .i64 (0)] 84)).alloc (Obj.cells #[.int .i64 (0), .int .i64 (0), .int .i64 (0), .int .i64 (b.room - y.room)] 84))) := by show Below _ _ _; go_grown
 clear e0_0 e0_1 e0_2 e0_3 e0_4 e1_0 e1_2 e1_3 e1_4 e2_0 e2_3 e2_4 e3_0 e3_4 e4_0
 generalize (((((w.alloc (Obj.cells #[.bool x.pack, .slice a1 x.berths.length c1, .slice a2 x.services.length c2, .slice a3 x.copies.length c3] 33)).alloc (Obj.cells #[.string y.name, .string y.service, .int .i64 y.rank, .int .i64 y.born, .int .i64 y.room, .int .i64 y.hold, .string y.select, .slice a7 y.likes.length c7, .int .i64 y.apart, .string y.near, .string y.fixed, .string y.at_] 45)).alloc (Obj.cells #[.string b.name, .string b.zone, .slice am b.marks.length cm, .int .i64 b.room, .int .i64 b.hold, .bool b.closed] 61)).alloc (Obj.cells #[.int .i64 (0), .int .i64 (0), .int .i64 (0), .int .i64 (0)] 84)).alloc (Obj.cells #[.int .i64 (0), .int .i64 (0), .int .i64 (0), .int .i64 (b.room - y.room)] 84)) = w0 at *
 go_loopw [8] (fun i wr => ∃ (k : Nat) (L : Int), k ≤ y.likes.length ∧ i = .int .i64 k ∧ -100 ≤ L ∧ L ≤ 100 ∧ Hid (L = likeTo (fun t => selS t b.marks b.zone) y.likes k) ∧ Hid (L4In w.heap.size x a1 c1 a2 c2 a3 c3 y a7 c7 b am cm wr) ∧ Hid (Blk (w.heap.size + 1 + 1 + 1 + 1) #[.int .i64 (L), .int .i64 (0), .int .i64 (0), .int .i64 (b.room - y.room)] 84 wr) ∧ Hid (Below w.heap.size w wr)) (fun i _ => y.likes.length - (intOf i).toNat)
 case atStart => exact ⟨0, 0, Nat.zero_le _, rfl, by omega, by omega, rfl, HI0, HO0, HB0⟩
 case round =>
  clear HI0 HO0 HB0
  obtain ⟨k, L, hk, rfl, hL0, hL1, hL, hI, hO, hB⟩ := hrel
  have p7 : wr.cell? ⟨w.heap.size + 1, 7, none⟩ = some (.slice a7 y.likes.length c7) := hI.out.2.1.cell rfl
  by_cases hlt : k < y.likes.length
  ·obtain ⟨l, hl⟩ : ∃ l, y.likes[k]? = some l := ⟨y.likes[k], List.getElem?_eq_getElem hlt⟩
   obtain ⟨b7, o7, rfl, _, _, hc⟩ := (N7.out.below LikC.holds hB.out nL).at hl
   obtain ⟨q0, q1, z0⟩ := hc
   simp only [Nat.add_zero] at q0
   have HLL := iH hl
   have HZ0 := iH z0
   have HQ0 := iH q0
   have HQ1 := iH q1
   have hwt := HLW.out k l hl
   obtain ⟨bb, hbb⟩ : ∃ bb, selS l.select b.marks b.zone = bb := ⟨_, rfl⟩
   clear hl z0 q0 q1
   go_upto_region 5 with fail
   refine wp_region_held_drew (S := L4R w.heap.size y (some ⟨b7, o7, none⟩) c7 b am cm b7 (o7 + k * 2) l.select) (by kernel_rfl) (hI.out.drew.r (by simpa using HQ0.out)) (fun hS => ?_)
   refine x7 0 24 (.pointer (some ⟨w.heap.size + 1, 7, none⟩)) rfl hS ?_
   simp only [pA,pB,pC,pD]
   refine x7 1 25 (.slice (some ⟨b7, o7, none⟩) y.likes.length c7) rfl hS ?_
   simp only [pA,pB,pC,pD]
   refine x7 2 26 (.int .i64 (k : Int)) rfl hS ?_
   simp only [pA,pB,pC,pD]
   refine x7 3 27 (.pointer (some ⟨b7, o7 + k * 2, none⟩)) rfl hS ?_
   simp only [pA,pB,pC,pD]
   refine x7 4 28 (.pointer (some ⟨b7, o7 + k * 2, none⟩)) rfl hS ?_
   simp only [pA,pB,pC,pD]
   refine x7 5 29 (.string l.select) rfl hS ?_
   simp only [pA,pB,pC,pD]
   refine x7 6 30 (.agg #[.string b.name, .string b.zone, .slice am b.marks.length cm, .int .i64 b.room, .int .i64 b.hold, .bool b.closed]) rfl hS ?_
   simp only [pA,pB,pC,pD]
   refine rd1 7 ⟨some 31, _, _, _, _, none⟩ rfl (fun K hK => ?_)
   go_simp
   refine (l3Select_any l.select b.name b.zone b.marks am cm lo b.room b.hold b.closed _ (NM.out.below StrC.holds hB.out.drew nL) hml hz HZ0.out).mono ?_
   rintro e w5 ⟨rfl, hb5⟩
   rw [hbb]
   have hd5 : Below wr.heap.size wr w5 := (Below.refl _ wr).drew.trans hb5
   have HB5 : Hid (Below w.heap.size w w5) := hB.out.trans (hd5.mono hB.out.size)
   have HI5 : Hid (L4In w.heap.size x a1 c1 a2 c2 a3 c3 y (some ⟨b7, o7, none⟩) c7 b am cm w5) := hI.out.below hd5
   have HO5 : Hid (Blk (w.heap.size + 1 + 1 + 1 + 1) #[.int .i64 (L), .int .i64 (0), .int .i64 (0), .int .i64 (b.room - y.room)] 84 w5) := hO.out.below hd5 hO.out.lt
   have r0 : w5.cell? ⟨b7, o7 + k * 2, none⟩ = some (.string l.select) := (hd5.cell (p := ⟨b7, o7 + k * 2, none⟩) (block_lt_of_cell HQ0.out)).trans HQ0.out
   have r1 : w5.cell? ⟨b7, o7 + k * 2 + 1, none⟩ = some (.int .i64 l.weight) := (hd5.cell (p := ⟨b7, o7 + k * 2 + 1, none⟩) (block_lt_of_cell HQ1.out)).trans HQ1.out
   refine hK.out _ _ (HI5.out.r r0) (fun hS => ?_)
   clear hK K hb5 hd5
   refine td ?_
   clear hS
   have p7' : w5.cell? ⟨w.heap.size + 1, 7, none⟩ = some (.slice (some ⟨b7, o7, none⟩) y.likes.length c7) := HI5.out.2.1.cell rfl
   have g0 : w5.cell? ⟨w.heap.size + 1 + 1 + 1 + 1, 0, none⟩ = some (.int .i64 L) := HO5.out.cell rfl
   have f0 : w5.frozen? ⟨w.heap.size + 1 + 1 + 1 + 1, 0, none⟩ = false := HO5.out.frozen 0
   cases bb with
   | true =>
    have HE : Hid (likeTo (fun t => selS t b.marks b.zone) y.likes (k + 1) = likeTo (fun t => selS t b.marks b.zone) y.likes k + l.weight) := likeTo_yes HLL.out hbb
    have hbd := likeTo_bd (f := (fun t => selS t b.marks b.zone)) HLW.out k
    have hLe := hL.out
    have hx0 : -100 ≤ L + l.weight := by omega
    have hx1 : L + l.weight ≤ 100 := by omega
    clear hbd hLe
    go_wp2_with fail
    go_region
    go_wp2_with fail
    go_roundw
    case rel =>
     have h1 := HO5.out.set 0 (.int .i64 (L + l.weight))
     exact ⟨k + 1, L + l.weight, by omega, by go_num, hx0, hx1, by show _ = _; rw [HE.out, hL.out], (HI5.out.set 0 _).drew, h1.drew, (HB5.out.setCell (p := ⟨w.heap.size + 1 + 1 + 1 + 1, 0, none⟩) (by show w.heap.size ≤ w.heap.size + 1 + 1 + 1 + 1; omega) _).drew⟩
    case measure => simp [intOf]; omega
   | false =>
    have HE : Hid (likeTo (fun t => selS t b.marks b.zone) y.likes (k + 1) = likeTo (fun t => selS t b.marks b.zone) y.likes k) := likeTo_no HLL.out hbb
    go_wp2_with fail
    go_roundw
    case rel => exact ⟨k + 1, L, by omega, by go_num, hL0, hL1, by show _ = _; rw [HE.out, hL.out], HI5, HO5, HB5⟩
    case measure => simp [intOf]; omega
  ·have hke : k = y.likes.length := by omega
   subst hke
   have HL := iH hL.out
   go_wp2_with fail
   go_loopw [9] (fun i wr => ∃ (k : Nat) (Z N F : Int), k ≤ x.copies.length ∧ i = .int .i64 k ∧ 0 ≤ Z ∧ Z ≤ 60 ∧ 0 ≤ N ∧ N ≤ 60 ∧ -70000 ≤ F ∧ F ≤ 1000 ∧ Hid (Z = (cntTo (znF x ci y.service b.zone) k : Nat)) ∧ Hid (N = (cntTo (bthF x ci y.service b.name) k : Nat)) ∧ Hid (F = b.room - y.room - roomTo x ci b.name k) ∧ Hid (L4In w.heap.size x a1 c1 a2 c2 a3 c3 y a7 c7 b am cm wr) ∧ Hid (Blk (w.heap.size + 1 + 1 + 1 + 1) #[.int .i64 (L), .int .i64 (Z), .int .i64 (N), .int .i64 (F)] 84 wr) ∧ Hid (Below w.heap.size w wr)) (fun i _ => x.copies.length - (intOf i).toNat)
   case atStart => exact ⟨0, 0, 0, b.room - y.room, Nat.zero_le _, rfl, by omega, by omega, by omega, by omega, by omega, by omega, rfl, rfl, by show _ = _; simp [roomTo], hI, hO, hB⟩
   case round =>
    clear hI hO hB p7 hL hlt hk
    obtain ⟨k, Z, N, F, hk, rfl, hZ0, hZ1, hN0, hN1, hF0, hF1, hZ, hN, hF, hI, hO, hB⟩ := hrel
    have p3 : wr.cell? ⟨w.heap.size, 3, none⟩ = some (.slice a3 x.copies.length c3) := hI.out.1.cell rfl
    by_cases hlt : k < x.copies.length
    ·obtain ⟨c, hck⟩ : ∃ c, x.copies[k]? = some c := ⟨x.copies[k], List.getElem?_eq_getElem hlt⟩
     obtain ⟨cb, co, rfl, _, _, hc⟩ := (N3.out.below CpyC.holds hB.out nL).at hck
     obtain ⟨a8, c8, q0, q1, q2, q3, q4, q5, q6, q7, q8, q9, q10, q11, z0, z1, z6, z9, z10, z11, z7⟩ := hc
     simp only [Nat.add_zero] at q0 q1 q2 q3 q4 q5 q6 q7 q8 q9 q10 q11
     have HRA : Hid (wr.rangeAt cb (co + k * 12) [.string c.name, .string c.service, .int .i64 c.rank, .int .i64 c.born, .int .i64 c.room, .int .i64 c.hold, .string c.select, .slice a8 c.likes.length c8, .int .i64 c.apart, .string c.near, .string c.fixed, .string c.at_]) := range_cons q0 (range_cons q1 (range_cons q2 (range_cons q3 (range_cons q4 (range_cons q5 (range_cons q6 (range_cons q7 (range_cons q8 (range_cons q9 (range_cons q10 (range_cons q11 (range_nil _ _ _))))))))))))
     have HX := iH hck
     obtain ⟨hr0, hr1⟩ := HCP.out k c hck
     have HSM : Hid (k = ci ↔ c.name = y.name) := by
      constructor
      ·rintro rfl
       have := HCI.out
       rw [hck] at this
       cases this
       rfl
      ·intro e
       exact HCN.out.inj (map_get (f := (·.name)) hck) (by rw [map_get (f := (·.name)) HCI.out, e])
     have HRB := iH (roomTo_bd ci b.name HCP.out (k + 1))
     have HZB := iH (cntTo_le (znF x ci y.service b.zone) (k + 1))
     have HNB := iH (cntTo_le (bthF x ci y.service b.name) (k + 1))
     clear hck q0 q1 q2 q3 q4 q5 q6 q7 q8 q9 q10 q11 z0 z1 z6 z7 z9 z10 z11
     go_upto_region 11 with (first | (refine wpList_load_mid rfl 45 _ rfl cb (co + k * 12) (by first | rfl | (simp [go_sem]; done)) [.string c.name, .string c.service, .int .i64 c.rank, .int .i64 c.born, .int .i64 c.room, .int .i64 c.hold, .string c.select, .slice a8 c.likes.length c8, .int .i64 c.apart, .string c.near, .string c.fixed, .string c.at_] _ HRA.out Tryz.underlying45 rfl isz_Cpy ?_))
     have hbx : Below wr.heap.size wr (wr.alloc (Obj.cells #[.string c.name, .string c.service, .int .i64 c.rank, .int .i64 c.born, .int .i64 c.room, .int .i64 c.hold, .string c.select, .slice a8 c.likes.length c8, .int .i64 c.apart, .string c.near, .string c.fixed, .string c.at_] 45)) := (Below.refl _ wr).alloc nL _
     have HX4 : Hid (Blk wr.heap.size #[.string c.name, .string c.service, .int .i64 c.rank, .int .i64 c.born, .int .i64 c.room, .int .i64 c.hold, .string c.select, .slice a8 c.likes.length c8, .int .i64 c.apart, .string c.near, .string c.fixed, .string c.at_] 45 (wr.alloc (Obj.cells #[.string c.name, .string c.service, .int .i64 c.rank, .int .i64 c.born, .int .i64 c.room, .int .i64 c.hold, .string c.select, .slice a8 c.likes.length c8, .int .i64 c.apart, .string c.near, .string c.fixed, .string c.at_] 45))) := Blk.alloc _ _ _
     have HI4 := iH (hI.out.below hbx)
     have HO4 : Hid (Blk (w.heap.size + 1 + 1 + 1 + 1) #[.int .i64 (L), .int .i64 (Z), .int .i64 (N), .int .i64 (F)] 84 (wr.alloc (Obj.cells #[.string c.name, .string c.service, .int .i64 c.rank, .int .i64 c.born, .int .i64 c.room, .int .i64 c.hold, .string c.select, .slice a8 c.likes.length c8, .int .i64 c.apart, .string c.near, .string c.fixed, .string c.at_] 45))) := hO.out.below hbx hO.out.lt
     have HB4 : Hid (Below w.heap.size w (wr.alloc (Obj.cells #[.string c.name, .string c.service, .int .i64 c.rank, .int .i64 c.born, .int .i64 c.room, .int .i64 c.hold, .string c.select, .slice a8 c.likes.length c8, .int .i64 c.apart, .string c.near, .string c.fixed, .string c.at_] 45))) := hB.out.trans (hbx.mono hB.out.size)
     have hbk : w.heap.size + 1 + 1 + 1 + 1 < wr.heap.size := hO.out.lt
     clear HRA hbx hI hO hB p3
     generalize (wr.alloc (Obj.cells #[.string c.name, .string c.service, .int .i64 c.rank, .int .i64 c.born, .int .i64 c.room, .int .i64 c.hold, .string c.select, .slice a8 c.likes.length c8, .int .i64 c.apart, .string c.near, .string c.fixed, .string c.at_] 45)) = w4 at *
     have y0 : w4.cell? ⟨w.heap.size + 1, 0, none⟩ = some (.string y.name) := HI4.out.2.1.cell rfl
     have y1 : w4.cell? ⟨w.heap.size + 1, 1, none⟩ = some (.string y.service) := HI4.out.2.1.cell rfl
     have zb0 : w4.cell? ⟨w.heap.size + 1 + 1, 0, none⟩ = some (.string b.name) := HI4.out.2.2.1.cell rfl
     have g0 : w4.cell? ⟨wr.heap.size, 0, none⟩ = some (.string c.name) := HX4.out.cell rfl
     have g1 : w4.cell? ⟨wr.heap.size, 1, none⟩ = some (.string c.service) := HX4.out.cell rfl
     have g4 : w4.cell? ⟨wr.heap.size, 4, none⟩ = some (.int .i64 c.room) := HX4.out.cell rfl
     have g11 : w4.cell? ⟨wr.heap.size, 11, none⟩ = some (.string c.at_) := HX4.out.cell rfl
     have o2 : w4.cell? ⟨w.heap.size + 1 + 1 + 1 + 1, 2, none⟩ = some (.int .i64 (N)) := HO4.out.cell rfl
     have v2 : w4.frozen? ⟨w.heap.size + 1 + 1 + 1 + 1, 2, none⟩ = false := HO4.out.frozen 2
     have o3 : w4.cell? ⟨w.heap.size + 1 + 1 + 1 + 1, 3, none⟩ = some (.int .i64 (F)) := HO4.out.cell rfl
     have v3 : w4.frozen? ⟨w.heap.size + 1 + 1 + 1 + 1, 3, none⟩ = false := HO4.out.frozen 3
     by_cases hnm : c.name = y.name
     ·have htn := bts_eq hnm
      have hkc := HSM.out.2 hnm
      have HZE := iH (cntTo_no (zn_no (sv := y.service) (z := b.zone) HX.out (fun h => h.1 hkc)))
      have HNE := iH (cntTo_no (bth_no (sv := y.service) (nm := b.name) HX.out (fun h => h.1 hkc)))
      have HFE := iH (roomTo_out (nm := b.name) HX.out (fun h => h.2 hkc))
      clear hnm hkc
      go_wp2_with fail
      go_roundw
      case rel => exact ⟨k + 1, Z, N, F, by omega, by go_num, hZ0, hZ1, hN0, hN1, hF0, hF1, by show _ = _; rw [HZE.out, hZ.out], by show _ = _; rw [HNE.out, hN.out], by show _ = _; rw [HFE.out, hF.out], HI4, HO4, HB4⟩
      case measure => simp [intOf]; omega
     have htn := bts_ne hnm
     have hkc : k ≠ ci := fun h => hnm (HSM.out.1 h)
     clear hnm
     by_cases hat : c.at_ = ⟨#[]⟩
     ·have HZE := iH (cntTo_no (zn_no (ci := ci) (sv := y.service) (z := b.zone) HX.out (fun h => h.2.2.1 hat)))
      have hab : ¬ c.at_ = b.name := fun h => HBN.out (h.symm.trans hat)
      have HNE := iH (cntTo_no (bth_no (ci := ci) (sv := y.service) (nm := b.name) HX.out (fun h => hab h.2.2)))
      have HFE := iH (roomTo_out (ci := ci) (nm := b.name) HX.out (fun h => hab h.1))
      have hte := empty_toList hat
      have hte2 : c.at_.toList.isEmpty = true := by rw [hte]; rfl
      clear hat hab hkc
      go_wp2_with fail
      go_roundw
      case rel => exact ⟨k + 1, Z, N, F, by omega, by go_num, hZ0, hZ1, hN0, hN1, hF0, hF1, by show _ = _; rw [HZE.out, hZ.out], by show _ = _; rw [HNE.out, hN.out], by show _ = _; rw [HFE.out, hF.out], HI4, HO4, HB4⟩
      case measure => simp [intOf]; omega
     have hte := nonempty_toList hat
     have hte2 : c.at_.toList.isEmpty = false := by
      cases h : c.at_.toList with
      | nil => exact absurd h hte
      | cons a l => rfl
     have HAT := iH hat
     clear hat
     by_cases hab : c.at_ = b.name
     ·have hta := bts_eq hab
      have HFE := iH (roomTo_in (nm := b.name) HX.out hab hkc)
      have HAB := iH hab
      clear hab
      have hF2 : -70000 ≤ F - c.room ∧ F - c.room ≤ 1000 := by
       have h1 := HRB.out
       have h2 := hF.out
       rw [HFE.out] at h1
       omega
      obtain ⟨hF2, hF3⟩ := hF2
      go_upto_region 14 with fail
      have HI5 := iH (HI4.out.set 3 (.int .i64 (F - c.room)))
      have HO5 : Hid (Blk (w.heap.size + 1 + 1 + 1 + 1) #[.int .i64 (L), .int .i64 (Z), .int .i64 (N), .int .i64 (F - c.room)] 84 (w4.setCell ⟨w.heap.size + 1 + 1 + 1 + 1, 3, none⟩ (.int .i64 (F - c.room)))) := HO4.out.set 3 _
      have HX5 : Hid (Blk wr.heap.size #[.string c.name, .string c.service, .int .i64 c.rank, .int .i64 c.born, .int .i64 c.room, .int .i64 c.hold, .string c.select, .slice a8 c.likes.length c8, .int .i64 c.apart, .string c.near, .string c.fixed, .string c.at_] 45 (w4.setCell ⟨w.heap.size + 1 + 1 + 1 + 1, 3, none⟩ (.int .i64 (F - c.room)))) := HX4.out.other (by show wr.heap.size ≠ w.heap.size + 1 + 1 + 1 + 1; omega) _
      have HB5 : Hid (Below w.heap.size w (w4.setCell ⟨w.heap.size + 1 + 1 + 1 + 1, 3, none⟩ (.int .i64 (F - c.room)))) := HB4.out.setCell (by show w.heap.size ≤ w.heap.size + 1 + 1 + 1 + 1; omega) _
      clear y0 y1 zb0 g0 g1 g4 g11 o2 v2 o3 v3 HI4 HO4 HX4 HB4
      generalize w4.setCell ⟨w.heap.size + 1 + 1 + 1 + 1, 3, none⟩ (.int .i64 (F - c.room)) = w5 at *
      have y0 : w5.cell? ⟨w.heap.size + 1, 0, none⟩ = some (.string y.name) := HI5.out.2.1.cell rfl
      have y1 : w5.cell? ⟨w.heap.size + 1, 1, none⟩ = some (.string y.service) := HI5.out.2.1.cell rfl
      have zb0 : w5.cell? ⟨w.heap.size + 1 + 1, 0, none⟩ = some (.string b.name) := HI5.out.2.2.1.cell rfl
      have g0 : w5.cell? ⟨wr.heap.size, 0, none⟩ = some (.string c.name) := HX5.out.cell rfl
      have g1 : w5.cell? ⟨wr.heap.size, 1, none⟩ = some (.string c.service) := HX5.out.cell rfl
      have g4 : w5.cell? ⟨wr.heap.size, 4, none⟩ = some (.int .i64 c.room) := HX5.out.cell rfl
      have g11 : w5.cell? ⟨wr.heap.size, 11, none⟩ = some (.string c.at_) := HX5.out.cell rfl
      have o2 : w5.cell? ⟨w.heap.size + 1 + 1 + 1 + 1, 2, none⟩ = some (.int .i64 (N)) := HO5.out.cell rfl
      have v2 : w5.frozen? ⟨w.heap.size + 1 + 1 + 1 + 1, 2, none⟩ = false := HO5.out.frozen 2
      have o3 : w5.cell? ⟨w.heap.size + 1 + 1 + 1 + 1, 3, none⟩ = some (.int .i64 (F - c.room)) := HO5.out.cell rfl
      have v3 : w5.frozen? ⟨w.heap.size + 1 + 1 + 1 + 1, 3, none⟩ = false := HO5.out.frozen 3
      by_cases hsv : c.service = y.service
      ·have hts := bts_eq hsv
       have HNE := iH (cntTo_yes (bth_yes HX.out hkc hsv HAB.out))
       have HSV := iH hsv
       clear hsv
       have hN2 : N + 1 ≤ 60 := by
        have h1 := HNB.out
        rw [HNE.out] at h1
        have h2 := hN.out
        omega
       go_upto_region 16 with fail
       have HI6 := iH (HI5.out.set 2 (.int .i64 (N + 1)))
       have HO6 : Hid (Blk (w.heap.size + 1 + 1 + 1 + 1) #[.int .i64 (L), .int .i64 (Z), .int .i64 (N + 1), .int .i64 (F - c.room)] 84 (w5.setCell ⟨w.heap.size + 1 + 1 + 1 + 1, 2, none⟩ (.int .i64 (N + 1)))) := HO5.out.set 2 _
       have HX6 : Hid (Blk wr.heap.size #[.string c.name, .string c.service, .int .i64 c.rank, .int .i64 c.born, .int .i64 c.room, .int .i64 c.hold, .string c.select, .slice a8 c.likes.length c8, .int .i64 c.apart, .string c.near, .string c.fixed, .string c.at_] 45 (w5.setCell ⟨w.heap.size + 1 + 1 + 1 + 1, 2, none⟩ (.int .i64 (N + 1)))) := HX5.out.other (by show wr.heap.size ≠ w.heap.size + 1 + 1 + 1 + 1; omega) _
       have HB6 : Hid (Below w.heap.size w (w5.setCell ⟨w.heap.size + 1 + 1 + 1 + 1, 2, none⟩ (.int .i64 (N + 1)))) := HB5.out.setCell (by show w.heap.size ≤ w.heap.size + 1 + 1 + 1 + 1; omega) _
       clear y0 y1 zb0 g0 g1 g4 g11 o2 v2 o3 v3 HI5 HO5 HX5 HB5
       generalize w5.setCell ⟨w.heap.size + 1 + 1 + 1 + 1, 2, none⟩ (.int .i64 (N + 1)) = w6 at *
       obtain ⟨zz, hzz⟩ : ∃ zz, ((zoneOf x.berths c.at_).toList == b.zone.toList) = zz := ⟨_, rfl⟩
       have hbk6 : wr.heap.size < w6.heap.size := HX6.out.lt
       refine wp_region_held_drew (S := L4T w.heap.size x a1 c1 a2 c2 (some ⟨cb, co, none⟩) c3 y b wr.heap.size c) (by kernel_rfl) (HI6.out.drew.t (HX6.out.drew.cell rfl) (HX6.out.drew.cell rfl)) (fun hS => ?_)
       refine x0 0 91 (.pointer (some ⟨wr.heap.size, 1, none⟩)) rfl hS ?_
       simp only [pA,pB,pC,pD]
       refine x0 1 92 (.string c.service) rfl hS ?_
       simp only [pA,pB,pC,pD]
       refine x0 2 93 (.pointer (some ⟨w.heap.size + 1, 1, none⟩)) rfl hS ?_
       simp only [pA,pB,pC,pD]
       refine x0 3 94 (.string y.service) rfl hS ?_
       simp only [pA,pB,pC,pD]
       refine x0 4 95 (.bool true) rfl hS ?_
       simp only [pA,pB,pC,pD]
       refine x0 5 96 (.bool true) rfl hS ?_
       simp only [pA,pB,pC,pD]
       refine x0 6 97 (.agg #[.bool x.pack, .slice a1 x.berths.length c1, .slice a2 x.services.length c2, .slice (some ⟨cb, co, none⟩) x.copies.length c3]) rfl hS ?_
       simp only [pA,pB,pC,pD]
       refine x0 7 98 (.pointer (some ⟨wr.heap.size, 11, none⟩)) rfl hS ?_
       simp only [pA,pB,pC,pD]
       refine x0 8 99 (.string c.at_) rfl hS ?_
       simp only [pA,pB,pC,pD]
       refine x0 10 101 (.pointer (some ⟨w.heap.size + 1 + 1, 1, none⟩)) rfl hS ?_
       simp only [pA,pB,pC,pD]
       refine x0 11 102 (.string b.zone) rfl hS ?_
       simp only [pA,pB,pC,pD]
       refine rd1 9 ⟨some 100, _, _, _, _, some (5, true)⟩ rfl (fun K hK => ?_)
       go_simp
       refine (zoneOf_any x a1 c1 a2 c2 (some ⟨cb, co, none⟩) c3 lo c.at_ _ (N1.out.below BrtC.holds HB6.out.drew nL) (by omega)).mono ?_
       rintro e w7 ⟨rfl, hb7⟩
       have hd7 : Below w6.heap.size w6 w7 := (Below.refl _ w6).drew.trans hb7
       have HB7 : Hid (Below w.heap.size w w7) := HB6.out.trans (hd7.mono HB6.out.size)
       have HI7 := iH (HI6.out.below hd7)
       have HO7 := iH (HO6.out.below hd7 HO6.out.lt)
       have HX7 := iH (HX6.out.below hd7 HX6.out.lt)
       refine hK.out _ _ (HI7.out.t (HX7.out.cell rfl) (HX7.out.cell rfl)) (fun hS => ?_)
       clear hK K hb7 hd7
       refine x0 12 103 (.bool zz) rfl hS ?_
       simp only [pA,pB,pC,pD]
       refine x0 13 104 (.bool zz) rfl hS ?_
       simp only [pA,pB,pC,pD]
       refine td ?_
       clear hS
       have o1 : w7.cell? ⟨w.heap.size + 1 + 1 + 1 + 1, 1, none⟩ = some (.int .i64 Z) := HO7.out.cell rfl
       have v1 : w7.frozen? ⟨w.heap.size + 1 + 1 + 1 + 1, 1, none⟩ = false := HO7.out.frozen 1
       cases zz with
       | true =>
        have hzo : zoneOf x.berths c.at_ = b.zone := Classical.byContradiction fun h => by rw [bts_ne h] at hzz; cases hzz
        have HZE := iH (cntTo_yes (zn_yes HX.out hkc HSV.out HAT.out hzo))
        have hZ2 : Z + 1 ≤ 60 := by
         have h1 := HZB.out
         rw [HZE.out] at h1
         have h2 := hZ.out
         omega
        clear hzo
        go_wp2_with fail
        go_roundw
        case rel => exact ⟨k + 1, Z + 1, N + 1, F - c.room, by omega, by go_num, by omega, hZ2, by omega, by omega, by omega, by omega, by show _ = _; rw [HZE.out, hZ.out]; omega, by show _ = _; rw [HNE.out, hN.out]; omega, by show _ = _; rw [HFE.out, hF.out]; omega, HI7.out.set 1 _, HO7.out.set 1 _, HB7.out.setCell (p := ⟨w.heap.size + 1 + 1 + 1 + 1, 1, none⟩) (by show w.heap.size ≤ w.heap.size + 1 + 1 + 1 + 1; omega) _⟩
        case measure => simp [intOf]; omega
       | false =>
        have hzo : ¬ zoneOf x.berths c.at_ = b.zone := fun h => by rw [bts_eq h] at hzz; cases hzz
        have HZE := iH (cntTo_no (zn_no (ci := ci) (sv := y.service) HX.out (fun h => hzo h.2.2.2)))
        clear hzo
        go_wp2_with fail
        go_roundw
        case rel => exact ⟨k + 1, Z, N + 1, F - c.room, by omega, by go_num, hZ0, hZ1, by omega, by omega, by omega, by omega, by show _ = _; rw [HZE.out, hZ.out], by show _ = _; rw [HNE.out, hN.out]; omega, by show _ = _; rw [HFE.out, hF.out]; omega, HI7, HO7, HB7⟩
        case measure => simp [intOf]; omega
      ·have hts := bts_ne hsv
       have HNE := iH (cntTo_no (bth_no (ci := ci) (nm := b.name) HX.out (fun h => hsv h.2.1)))
       have HSV := iH hsv
       clear hsv
       go_upto_region 16 with fail
       have HI6 := HI5
       have HO6 := HO5
       have HX6 := HX5
       have HB6 := HB5
       clear y0 y1 zb0 g0 g1 g4 g11 o2 v2 o3 v3
       have HZE := iH (cntTo_no (zn_no (ci := ci) (z := b.zone) HX.out (fun h => HSV.out h.2.1)))
       generalize w5 = w6 at *
       have hbk6 : wr.heap.size < w6.heap.size := HX6.out.lt
       refine wp_region_held_drew (S := L4T w.heap.size x a1 c1 a2 c2 (some ⟨cb, co, none⟩) c3 y b wr.heap.size c) (by kernel_rfl) (HI6.out.drew.t (HX6.out.drew.cell rfl) (HX6.out.drew.cell rfl)) (fun hS => ?_)
       refine x0 0 91 (.pointer (some ⟨wr.heap.size, 1, none⟩)) rfl hS ?_
       simp only [pA,pB,pC,pD]
       refine x0 1 92 (.string c.service) rfl hS ?_
       simp only [pA,pB,pC,pD]
       refine x0 2 93 (.pointer (some ⟨w.heap.size + 1, 1, none⟩)) rfl hS ?_
       simp only [pA,pB,pC,pD]
       refine x0 3 94 (.string y.service) rfl hS ?_
       simp only [pA,pB,pC,pD]
       refine x0 4 95 (.bool false) rfl hS ?_
       simp only [pA,pB,pC,pD]
       refine x0 5 96 (.bool false) rfl hS ?_
       simp only [pA,pB,pC,pD]
       refine ts 6 97 rfl hS ?_
       simp only [pA,pB,pC,pD]
       refine ts 7 98 rfl hS ?_
       simp only [pA,pB,pC,pD]
       refine ts 8 99 rfl hS ?_
       simp only [pA,pB,pC,pD]
       refine ts 9 100 rfl hS ?_
       simp only [pA,pB,pC,pD]
       refine ts 10 101 rfl hS ?_
       simp only [pA,pB,pC,pD]
       refine ts 11 102 rfl hS ?_
       simp only [pA,pB,pC,pD]
       refine ts 12 103 rfl hS ?_
       simp only [pA,pB,pC,pD]
       refine x0 13 104 (.bool false) rfl hS ?_
       simp only [pA,pB,pC,pD]
       refine td ?_
       clear hS
       go_wp2_with fail
       go_roundw
       case rel => exact ⟨k + 1, Z, N, F - c.room, by omega, by go_num, hZ0, hZ1, by omega, by omega, by omega, by omega, by show _ = _; rw [HZE.out, hZ.out], by show _ = _; rw [HNE.out, hN.out], by show _ = _; rw [HFE.out, hF.out]; omega, HI6.out.drew, HO6.out.drew, HB6.out.drew⟩
       case measure => simp [intOf]; omega
     ·have hta := bts_ne hab
      have HFE := iH (roomTo_out (ci := ci) (nm := b.name) HX.out (fun h => hab h.1))
      have HNE := iH (cntTo_no (bth_no (ci := ci) (sv := y.service) (nm := b.name) HX.out (fun h => hab h.2.2)))
      clear hab
      by_cases hsv : c.service = y.service
      ·have hts := bts_eq hsv
       have HSV := iH hsv
       clear hsv
       go_upto_region 16 with fail
       have HI6 := HI4
       have HO6 := HO4
       have HX6 := HX4
       have HB6 := HB4
       clear y0 y1 zb0 g0 g1 g4 g11 o2 v2 o3 v3
       generalize w4 = w6 at *
       obtain ⟨zz, hzz⟩ : ∃ zz, ((zoneOf x.berths c.at_).toList == b.zone.toList) = zz := ⟨_, rfl⟩
       have hbk6 : wr.heap.size < w6.heap.size := HX6.out.lt
       refine wp_region_held_drew (S := L4T w.heap.size x a1 c1 a2 c2 (some ⟨cb, co, none⟩) c3 y b wr.heap.size c) (by kernel_rfl) (HI6.out.drew.t (HX6.out.drew.cell rfl) (HX6.out.drew.cell rfl)) (fun hS => ?_)
       refine x0 0 91 (.pointer (some ⟨wr.heap.size, 1, none⟩)) rfl hS ?_
       simp only [pA,pB,pC,pD]
       refine x0 1 92 (.string c.service) rfl hS ?_
       simp only [pA,pB,pC,pD]
       refine x0 2 93 (.pointer (some ⟨w.heap.size + 1, 1, none⟩)) rfl hS ?_
       simp only [pA,pB,pC,pD]
       refine x0 3 94 (.string y.service) rfl hS ?_
       simp only [pA,pB,pC,pD]
       refine x0 4 95 (.bool true) rfl hS ?_
       simp only [pA,pB,pC,pD]
       refine x0 5 96 (.bool true) rfl hS ?_
       simp only [pA,pB,pC,pD]
       refine x0 6 97 (.agg #[.bool x.pack, .slice a1 x.berths.length c1, .slice a2 x.services.length c2, .slice (some ⟨cb, co, none⟩) x.copies.length c3]) rfl hS ?_
       simp only [pA,pB,pC,pD]
       refine x0 7 98 (.pointer (some ⟨wr.heap.size, 11, none⟩)) rfl hS ?_
       simp only [pA,pB,pC,pD]
       refine x0 8 99 (.string c.at_) rfl hS ?_
       simp only [pA,pB,pC,pD]
       refine x0 10 101 (.pointer (some ⟨w.heap.size + 1 + 1, 1, none⟩)) rfl hS ?_
       simp only [pA,pB,pC,pD]
       refine x0 11 102 (.string b.zone) rfl hS ?_
       simp only [pA,pB,pC,pD]
       refine rd1 9 ⟨some 100, _, _, _, _, some (5, true)⟩ rfl (fun K hK => ?_)
       go_simp
       refine (zoneOf_any x a1 c1 a2 c2 (some ⟨cb, co, none⟩) c3 lo c.at_ _ (N1.out.below BrtC.holds HB6.out.drew nL) (by omega)).mono ?_
       rintro e w7 ⟨rfl, hb7⟩
       have hd7 : Below w6.heap.size w6 w7 := (Below.refl _ w6).drew.trans hb7
       have HB7 : Hid (Below w.heap.size w w7) := HB6.out.trans (hd7.mono HB6.out.size)
       have HI7 := iH (HI6.out.below hd7)
       have HO7 := iH (HO6.out.below hd7 HO6.out.lt)
       have HX7 := iH (HX6.out.below hd7 HX6.out.lt)
       refine hK.out _ _ (HI7.out.t (HX7.out.cell rfl) (HX7.out.cell rfl)) (fun hS => ?_)
       clear hK K hb7 hd7
       refine x0 12 103 (.bool zz) rfl hS ?_
       simp only [pA,pB,pC,pD]
       refine x0 13 104 (.bool zz) rfl hS ?_
       simp only [pA,pB,pC,pD]
       refine td ?_
       clear hS
       have o1 : w7.cell? ⟨w.heap.size + 1 + 1 + 1 + 1, 1, none⟩ = some (.int .i64 Z) := HO7.out.cell rfl
       have v1 : w7.frozen? ⟨w.heap.size + 1 + 1 + 1 + 1, 1, none⟩ = false := HO7.out.frozen 1
       cases zz with
       | true =>
        have hzo : zoneOf x.berths c.at_ = b.zone := Classical.byContradiction fun h => by rw [bts_ne h] at hzz; cases hzz
        have HZE := iH (cntTo_yes (zn_yes HX.out hkc HSV.out HAT.out hzo))
        have hZ2 : Z + 1 ≤ 60 := by
         have h1 := HZB.out
         rw [HZE.out] at h1
         have h2 := hZ.out
         omega
        clear hzo
        go_wp2_with fail
        go_roundw
        case rel => exact ⟨k + 1, Z + 1, N, F, by omega, by go_num, by omega, hZ2, by omega, by omega, by omega, by omega, by show _ = _; rw [HZE.out, hZ.out]; omega, by show _ = _; rw [HNE.out, hN.out], by show _ = _; rw [HFE.out, hF.out], HI7.out.set 1 _, HO7.out.set 1 _, HB7.out.setCell (p := ⟨w.heap.size + 1 + 1 + 1 + 1, 1, none⟩) (by show w.heap.size ≤ w.heap.size + 1 + 1 + 1 + 1; omega) _⟩
        case measure => simp [intOf]; omega
       | false =>
        have hzo : ¬ zoneOf x.berths c.at_ = b.zone := fun h => by rw [bts_eq h] at hzz; cases hzz
        have HZE := iH (cntTo_no (zn_no (ci := ci) (sv := y.service) HX.out (fun h => hzo h.2.2.2)))
        clear hzo
        go_wp2_with fail
        go_roundw
        case rel => exact ⟨k + 1, Z, N, F, by omega, by go_num, hZ0, hZ1, by omega, by omega, by omega, by omega, by show _ = _; rw [HZE.out, hZ.out], by show _ = _; rw [HNE.out, hN.out], by show _ = _; rw [HFE.out, hF.out], HI7, HO7, HB7⟩
        case measure => simp [intOf]; omega
      ·have hts := bts_ne hsv
       have HSV := iH hsv
       clear hsv
       go_upto_region 16 with fail
       have HI6 := HI4
       have HO6 := HO4
       have HX6 := HX4
       have HB6 := HB4
       clear y0 y1 zb0 g0 g1 g4 g11 o2 v2 o3 v3
       have HZE := iH (cntTo_no (zn_no (ci := ci) (z := b.zone) HX.out (fun h => HSV.out h.2.1)))
       generalize w4 = w6 at *
       have hbk6 : wr.heap.size < w6.heap.size := HX6.out.lt
       refine wp_region_held_drew (S := L4T w.heap.size x a1 c1 a2 c2 (some ⟨cb, co, none⟩) c3 y b wr.heap.size c) (by kernel_rfl) (HI6.out.drew.t (HX6.out.drew.cell rfl) (HX6.out.drew.cell rfl)) (fun hS => ?_)
       refine x0 0 91 (.pointer (some ⟨wr.heap.size, 1, none⟩)) rfl hS ?_
       simp only [pA,pB,pC,pD]
       refine x0 1 92 (.string c.service) rfl hS ?_
       simp only [pA,pB,pC,pD]
       refine x0 2 93 (.pointer (some ⟨w.heap.size + 1, 1, none⟩)) rfl hS ?_
       simp only [pA,pB,pC,pD]
       refine x0 3 94 (.string y.service) rfl hS ?_
       simp only [pA,pB,pC,pD]
       refine x0 4 95 (.bool false) rfl hS ?_
       simp only [pA,pB,pC,pD]
       refine x0 5 96 (.bool false) rfl hS ?_
       simp only [pA,pB,pC,pD]
       refine ts 6 97 rfl hS ?_
       simp only [pA,pB,pC,pD]
       refine ts 7 98 rfl hS ?_
       simp only [pA,pB,pC,pD]
       refine ts 8 99 rfl hS ?_
       simp only [pA,pB,pC,pD]
       refine ts 9 100 rfl hS ?_
       simp only [pA,pB,pC,pD]
       refine ts 10 101 rfl hS ?_
       simp only [pA,pB,pC,pD]
       refine ts 11 102 rfl hS ?_
       simp only [pA,pB,pC,pD]
       refine ts 12 103 rfl hS ?_
       simp only [pA,pB,pC,pD]
       refine x0 13 104 (.bool false) rfl hS ?_
       simp only [pA,pB,pC,pD]
       refine td ?_
       clear hS
       go_wp2_with fail
       go_roundw
       case rel => exact ⟨k + 1, Z, N, F, by omega, by go_num, hZ0, hZ1, by omega, by omega, by omega, by omega, by show _ = _; rw [HZE.out, hZ.out], by show _ = _; rw [HNE.out, hN.out], by show _ = _; rw [HFE.out, hF.out], HI6.out.drew, HO6.out.drew, HB6.out.drew⟩
       case measure => simp [intOf]; omega
    ·have hke : k = x.copies.length := by omega
     subst hke
     have o0 : wr.cell? ⟨w.heap.size + 1 + 1 + 1 + 1, 0, none⟩ = some (.int .i64 L) := hO.out.cell rfl
     have o1 : wr.cell? ⟨w.heap.size + 1 + 1 + 1 + 1, 1, none⟩ = some (.int .i64 Z) := hO.out.cell rfl
     have o2 : wr.cell? ⟨w.heap.size + 1 + 1 + 1 + 1, 2, none⟩ = some (.int .i64 N) := hO.out.cell rfl
     have o3 : wr.cell? ⟨w.heap.size + 1 + 1 + 1 + 1, 3, none⟩ = some (.int .i64 F) := hO.out.cell rfl
     have HT := iH hI.out.2.2.2.there
     have HR10 := iH (World.rangeAt_setCells_same wr (w.heap.size + 1 + 1 + 1) 0 [.int .i64 (L), .int .i64 (Z), .int .i64 (N), .int .i64 (F)] hI.out.2.2.2.there)
     have HB10 : Hid (Below w.heap.size w (wr.setCells (w.heap.size + 1 + 1 + 1) 0 [.int .i64 (L), .int .i64 (Z), .int .i64 (N), .int .i64 (F)])) := below_setCells (by omega) _ _ _ hB.out
     obtain ⟨w10, HW10⟩ : ∃ w10, Hid (w10 = wr.setCells (w.heap.size + 1 + 1 + 1) 0 [.int .i64 (L), .int .i64 (Z), .int .i64 (N), .int .i64 (F)]) := ⟨_, rfl⟩
     rw [← HW10.out] at HR10 HB10
     go_wp2_with (first | (refine wpList_store_to rfl 84 _ _ rfl (w.heap.size + 1 + 1 + 1) 0 #[.int .i64 (L), .int .i64 (Z), .int .i64 (N), .int .i64 (F)] rfl rfl HT.out isz_Score (by simp [Value.oneCell']) w10 HW10.out ?_))
     exact bodyPost_ret (results_cell_mid rfl _ _ (w.heap.size + 1 + 1 + 1) [.int .i64 (L), .int .i64 (Z), .int .i64 (N), .int .i64 (F)] _ rfl HR10.out Tryz.underlying84 rfl isz_Score) rfl ⟨ret_agg4 HL.out hZ.out hN.out hF.out, HB10.out⟩
end Go.Proofs.YtebfdgfhadpieaaGreat
