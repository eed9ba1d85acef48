import Derived.Test.YtnggdpjfmpjlhaaGreatLv3
import Derived.Test.YtnggdpjfmpjlhaaGreatHst
import Derived.OrdersIn
import Derived.Test.YtnggdpjfmpjlhaaGreatTkw
import Derived.Test.YtnggdpjfmpjlhaaGreatSk2
namespace Go.Proofs.YtnggdpjfmpjlhaaGreat
open Go.RowKit

section
variable {P : Program} {ops : Array Oper} {Q : Exit → Act → World → Prop} {md : Region.Mode} {S : World → Prop}

theorem upon_round {o : Oper} {a : Act} {K : Act → World → Prop} {l n : Nat} {r : Result Next} (h : o.upon P a K Q r) : o.uponIn (Fence.wide.inRound l) n P a K Q r := by
 cases r with
 | ok m w =>
  cases m with
  | value v => exact h
  | skip => exact h
  | defer d => exact h
  | enter f args => exact ⟨(fun h => by cases h), CallsIn.inRound l (callsIn_wide.2 h)⟩
  | row s args => exact ⟨(fun h => by cases h), fun c cs _ => by
    obtain ⟨v, w', r, s⟩ := h c cs
    exact ⟨v, w', r, stepsIn_wide.2 s⟩⟩
  | _ => exact h.elim
 | halt x w =>
  cases x with
  | panic v => exact h
  | _ => exact h.elim

theorem op_round {i : Nat} {a : Act} {w : World} {K : Act → World → Prop} {l n : Nat} (hnd : ∀ (i : Nat) o, ops[i]? = some o → ∀ c, o.op ≠ .defer c) (hno : ¬ LetsOut Q) (h : wpOp P ops Q i K a w) : wpOpIn (Fence.wide.inRound l) n P ops Q i K a w := by
 unfold wpOp at h
 unfold wpOpIn
 split
 ·rename_i hn
  simp only [hn] at h
  exact h
 ·rename_i o ho
  simp only [ho] at h
  split
  ·rename_i hw
   simp only [hw, if_true] at h
   rcases h with h | ⟨_, h⟩
   ·refine ⟨fun _ _ => trivial, ?_⟩
    rw [Oper.semAt_plain _ _ _ (hnd i o ho)]
    exact upon_round h
   ·exact absurd h hno
  ·rename_i hw
   simp only [hw] at h
   exact ⟨fun _ _ => trivial, h⟩

theorem any_round {l n : Nat} (hnd : ∀ (i : Nat) o, ops[i]? = some o → ∀ c, o.op ≠ .defer c) (hno : ¬ LetsOut Q) : ∀ (fuel : Nat) (listed : Array Bool) (a : Act) (w : World), wpAny P md ops Q fuel listed a w → wpAnyIn (Fence.wide.inRound l) n P md ops Q fuel listed a w
 | 0, _, _, _, h => h
 | fuel + 1, _, _, _, h => ⟨h.1, fun i hi => op_round hnd hno (wpOp_mono (fun b u k => any_round hnd hno fuel _ b u k) (h.2 i hi))⟩

def noDefer (ops : Array Oper) : Bool := ops.all (fun o => match o.op with | .defer _ => false | _ => true)

theorem noDefer_at (h : noDefer ops = true) (i : Nat) (o : Oper) (ho : ops[i]? = some o) (c : Call) : o.op ≠ .defer c := by
 intro e
 unfold noDefer at h
 rw [Array.all_eq_true] at h
 obtain ⟨hi, rfl⟩ := Array.getElem?_eq_some_iff.1 ho
 have := h i hi
 rw [e] at this
 cases this

theorem wpIn_until {id l n : Nat} {a : Act} {w : World} (s : Nat) (hm : P.follows .mixedOrders = true) (hnd : noDefer ops = true) (hS : S w.drew)
  (h : S w.drew → wpAnyU P .any ops (fun e a' w' => e = Exit.normal ∧ Q Exit.normal a' w') s S ops.size (Array.replicate ops.size false) a w.drew) : (Code.region id ops true).wpIn (Fence.wide.inRound l) n P Q a w :=
 wpIn_mono (wpIn_region_any hm (any_round (noDefer_at hnd) (by rintro ⟨_, _, h, _⟩; cases h) _ _ _ _ (wpAnyU.any _ _ _ _ (h hS)))) (by rintro e a' w' ⟨rfl, h⟩; exact h)

end

theorem KpT.of_grown {G : Nat → Prop} {n₀ : Nat} {w w' : World} {row : Option Nat} (hg : w.grownBy w' row) (hn : n₀ ≤ w.heap.size) (hr : ∀ r, row = some r → (n₀ ≤ r ∨ G r) ∧ ∃ cs ty, w.heap[r]? = some (Obj.cells cs ty) ∧ ¬ tyP ty) : KpT G n₀ w w' :=
 ⟨hg.os, hg.tape, hg.output, hg.size, fun k hk hG => hg.block k (by omega) (fun e => by rcases (hr k e.symm).1 with h | h; omega; exact hG h), fun k cs ty hk ht => hg.block k (Array.getElem?_eq_some_iff.1 hk).1 (fun e => by
  obtain ⟨_, cs', ty', h1, h2⟩ := hr k e.symm
  rw [hk] at h1
  cases h1
  exact h2 ht)⟩
theorem KeepsFrom.of_cells {B : Nat} {w w' : World} {row : Option Nat} (hg : w.grownBy w' row) (hr : ∀ r, row = some r → ∃ cs ty, w.heap[r]? = some (Obj.cells cs ty)) : KeepsFrom B w w' :=
 ⟨hg.size, fun k o _ ho hc => (hg.block k (Array.getElem?_eq_some_iff.1 ho).1 (fun e => by
  obtain ⟨cs, ty, h1⟩ := hr k e.symm
  rw [ho] at h1
  cases h1
  cases hc)).trans ho⟩
theorem KeepsFrom.of_below {B : Nat} {w w' : World} (h : Below w.heap.size w w') : KeepsFrom B w w' := ⟨h.size, fun k _ _ ho _ => (h.block k (Array.getElem?_eq_some_iff.1 ho).1).trans ho⟩

theorem SgL.grown {x : Sbk} {p q : Nat} {Wb : World} {v : Ssv} {lv : Int} {w w' : World} {row : Option Nat} (h : SgL x p q Wb v lv w) (hg : w.grownBy w' row) (hr : ∀ r, row = some r → Wb.heap.size ≤ r ∧ r ≠ q) : SgL x p q Wb v lv w' :=
 ⟨h.1.grown hg h.1.size (fun k e => (hr k e).1), h.2.grown hg (fun e => (hr q e.symm).2 rfl)⟩
theorem SgK.grown {x : Sbk} {p q : Nat} {Wb : World} {v : Ssv} {w w' : World} {row : Option Nat} (h : SgK x p q Wb v w) (hg : w.grownBy w' row) (hr : ∀ r, row = some r → Wb.heap.size ≤ r ∧ r ≠ q) : SgK x p q Wb v w' := by
 obtain ⟨lv, h⟩ := h
 exact ⟨lv, h.grown hg hr⟩

end Go.Proofs.YtnggdpjfmpjlhaaGreat

namespace Go.Proofs.YtnggdpjfmpjlhaaGreat
open Go.RowKit
attribute [local go_sem] Oper.semAt_some

def EnP (l : List Sen) (w : World) (e : Ending) (w' : World) : Prop := ∃ (a : Option Addr) (q : Nat), e = .returned (.slice a l.length q) ∧ w'.ownsRow w.heap.size 125 2 (.slice a l.length q) l.length (enV l) ∧ Below w.heap.size w w'

def EnL (g base : Nat) (l : List Sen) (w : World) : Prop := ∃ (a : Option Addr) (q : Nat), Blk g #[.slice a l.length q] 45 w ∧ w.ownsRow base 125 2 (.slice a l.length q) l.length (enV l)

theorem EnL.grown {g base : Nat} {l : List Sen} {w w' : World} {row : Option Nat} (h : EnL g base l w) (hg : w.grownBy w' row) (hr : ∀ r, row = some r → ∃ ob : Obj, w.heap[r]? = some ob ∧ ob.isCells = false) : EnL g base l w' := by
 obtain ⟨a, q, h1, h2⟩ := h
 refine ⟨a, q, h1.grown hg (fun e => ?_), h2.kept hg ?_⟩
 ·obtain ⟨ob, ho, hc⟩ := hr g e.symm
  rw [show w.heap[g]? = _ from h1] at ho
  cases ho
  cases hc
 ·rcases h2.2 with ⟨h3, _⟩ | ⟨g2, cap, cur, h3, _, h4, _⟩
  ·rw [h3]; exact .inl rfl
  ·rw [h3]
   refine .inr (fun e => ?_)
   obtain ⟨ob, ho, hc⟩ := hr g2 e.symm
   rw [h4] at ho
   cases ho
   cases hc

set_option maxHeartbeats 8000000 in
set_option maxRecDepth 100000 in
theorem endsF_any (x : Sbk) (a1 : Option Addr) (c1 : Nat) (b2 o2 c2 : Nat) (a3 : Option Addr) (c3 : Nat) (p m n lo q : Nat) (Wb : World) (v : Ssv) (f : Nat) (bd : Array Value) (qf : Scp → Bool) (w : World)
  (hF : FndS x a1 c1 (some ⟨b2, o2, none⟩) c2 a3 c3 p m n lo Wb) (hv : SVal x) (hcap : x.copies.length ≤ c2) (hK : SgK x p q Wb v w) (hsay : IsF x p q Wb v f bd qf) (heg : ∀ args w, (callFunc f args).run Tryz.prog w = .ok (.enter f args) w) :
  Calls Tryz.prog 122 #[.pointer (some ⟨q, 0, none⟩), .func (.func f) bd #[]] w fun e w' => EnP ((lvF x v.name qf).map enC) w e w' := by
 obtain ⟨i0, hi, hz0, hz1, hz2⟩ := info_parts info_Sen
 have HF := Hid.intro hF
 have HV := Hid.intro hv
 have HCAP := Hid.intro hcap
 have HSAY := Hid.intro hsay
 have hWb : Wb.heap.size ≤ w.heap.size := by obtain ⟨_, h, _⟩ := hK; exact h.size
 have hq : q < w.heap.size := by obtain ⟨_, _, h⟩ := hK; exact h.lt
 have hb5 : Below w.heap.size w (w.alloc (Obj.cells #[.slice none 0 0] 45)) := by go_grown
 have HL5 : Hid (Blk w.heap.size #[.slice none 0 0] 45 (w.alloc (Obj.cells #[.slice none 0 0] 45))) := Blk.alloc _ _ _
 have HK5 := Hid.intro (hK.below hb5)
 clear hF hv hcap hsay hK
 refine (callsIn_wide (n := 7)).1 ?_
 refine callsIn_of_wp_marks Tryz.func122 rfl trivial ?_ rfl
 refine wpIn_wide.2 ?_
 simp only [Tryz.ntmps122, List.size_toArray, List.length_cons, List.length_nil, Nat.reduceAdd, Nat.reduceSub, Array.replicate_succ, Array.replicate_zero, List.push_toArray, List.append_toArray, List.nil_append, List.cons_append]
 go_upto_region 2 with fail
 generalize w.alloc (Obj.cells #[.slice none 0 0] 45) = w5 at *
 go_wp2_with fail
 refine (live_any q (.func (.func f) bd #[]) _ rfl).mono ?_
 rintro e w7 ⟨rfl, hw7⟩
 have hb7 : Below w5.heap.size w5 w7 := by rw [hw7]; exact ((Below.refl _ w5).alloc (Nat.le_refl _) _).alloc (by simp) _
 have HQ7 : Hid (Blk w5.heap.size #[.pointer (some ⟨q, 0, none⟩)] 62 w7) := by
  show Blk _ _ _ _
  rw [hw7]
  exact (Blk.alloc w5 _ _).below ((Below.refl _ _).alloc (Nat.le_refl _) _) (Blk.alloc w5 _ _).lt
 have HI7 : Hid (Blk (w5.heap.size + 1) #[.func (.func f) bd #[]] 115 w7) := by
  rw [hw7]
  have h := Blk.alloc (w5.alloc (Obj.cells #[.pointer (some ⟨q, 0, none⟩)] 62)) #[.func (.func f) bd #[]] 115
  show Blk _ _ _ _
  simpa using h
 have HK7 := Hid.intro (HK5.out.below hb7)
 have HL7 := Hid.intro (HL5.out.below hb7 HL5.out.lt)
 have HB7 : Hid (Below w.heap.size w w7) := hb5.trans (hb7.mono hb5.size)
 have hg5 : w.heap.size < w5.heap.size := HL5.out.lt
 have hs7 : w5.heap.size + 1 < w7.heap.size := HI7.out.lt
 have hord : w.heap.size < w7.heap.size := by omega
 clear hw7 hb7 hb5 HK5 HL5
 generalize hB1 : w5.heap.size + 1 = Bi at *
 generalize hB2 : w5.heap.size = Bq at *
 clear hB1 hB2 w5
 have HW7 : Hid (Below Wb.heap.size Wb w7) := by obtain ⟨_, h, _⟩ := HK7.out; exact h
 go_wp2_with fail
 refine wpIn_wide.1 (range_all (n := 6) (fun k => k = w.heap.size) (SgK x p q Wb v) (gf := 83) (lb := #[.pointer (some ⟨Bq, 0, none⟩), .pointer (some ⟨Bi, 0, none⟩)]) rfl (enters_of Tryz.func83 (by kernel_rfl) rfl)
  (live_all x a1 c1 b2 o2 c2 a3 c3 p m n lo q Wb v Bq Bi f bd qf (fun k => k = w.heap.size) w7.heap.size w7 HF.out HV.out HCAP.out HQ7.out HI7.out HW7.out HW7.out.size (fun k e => by omega) HSAY.out heg) (fun _ => rfl)
  (fun pre W' => SgK x p q Wb v W' ∧ EnL w.heap.size w7.heap.size (pre.map (fun c => enC c.1)) W' ∧ Below w.heap.size w W' ∧ w7.heap.size ≤ W'.heap.size) ?_ (fun _ _ h => h.1) ?_
  (fun c a' W' => ∃ Bx, w7.heap.size ≤ Bx ∧ Blk Bx #[.string c.1.service, .int .i64 c.1.number, .int .i64 c.1.version, .int .i64 c.1.image, .int .i64 c.1.state, .bool c.1.ending, .string c.1.berth] 87 W' ∧ a' = { tmps := #[.pointer (some ⟨q, 0, none⟩), .func (.func f) bd #[], undef, undef, .slice none 0 0, .pointer (some ⟨w.heap.size, 0, none⟩), .pointer (some ⟨Bx, 0, none⟩), .pointer (some ⟨q, 0, none⟩), .func (.func f) bd #[], .func (.func 83) #[] #[.pointer (some ⟨Bq, 0, none⟩), .pointer (some ⟨Bi, 0, none⟩)], .agg #[.string c.1.service, .int .i64 c.1.number, .int .i64 c.1.version, .int .i64 c.1.image, .int .i64 c.1.state, .bool c.1.ending, .string c.1.berth], undef, undef, undef, undef, undef, undef], defers := [] }) ?_ ?_ ?_ ?_)
 ·rintro s A B row ⟨h1, h2, h3, h4⟩ hgr hr
  exact ⟨h1.grown hgr (fun r e => ⟨by have := (hr r e).1; omega, by have := (hr r e).1; omega⟩), h2.grown hgr (fun r e => (hr r e).2), h3.grown hgr h3.size (fun k e => by have := (hr k e).1; omega), Nat.le_trans h4 hgr.size⟩
 ·exact ⟨HK7.out, ⟨none, 0, HL7.out, World.ownsRow_nil _ _ _ _⟩, HB7.out, Nat.le_refl _⟩
 ·rintro c a' _ A B row ⟨Bx, h1, h2, h3⟩ hgr hr
  refine ⟨Bx, h1, h2.grown hgr (fun e => ?_), h3⟩
  obtain ⟨_, ob, ho, hc⟩ := hr _ e.symm
  rw [show A.heap[Bx]? = _ from h2] at ho
  cases ho
  cases hc
 ·rintro l' pre c W' K ⟨h1, h2, h3, h4⟩ hK
  have hKK := Hid.intro hK
  have H1 := Hid.intro h1
  have H2 := Hid.intro h2
  have H3 := Hid.intro h3
  clear hK h1 h2 h3
  have hza : Blk W'.heap.size #[.string ⟨#[]⟩, .int .i64 0, .int .i64 0, .int .i64 0, .int .i64 0, .bool false, .string ⟨#[]⟩] 87 (W'.alloc (Obj.cells #[.string ⟨#[]⟩, .int .i64 0, .int .i64 0, .int .i64 0, .int .i64 0, .bool false, .string ⟨#[]⟩] 87)) := Blk.alloc _ _ _
  have HTS : Hid ((W'.alloc (Obj.cells #[.string ⟨#[]⟩, .int .i64 0, .int .i64 0, .int .i64 0, .int .i64 0, .bool false, .string ⟨#[]⟩] 87)).there W'.heap.size 0 7) := hza.there
  obtain ⟨wz, HWZ⟩ : ∃ wz, Hid (wz = (W'.alloc (Obj.cells #[.string ⟨#[]⟩, .int .i64 0, .int .i64 0, .int .i64 0, .int .i64 0, .bool false, .string ⟨#[]⟩] 87)).setCells W'.heap.size 0 [.string c.1.service, .int .i64 c.1.number, .int .i64 c.1.version, .int .i64 c.1.image, .int .i64 c.1.state, .bool c.1.ending, .string c.1.berth]) := ⟨_, rfl⟩
  have HKZ : Hid (Blk W'.heap.size #[.string c.1.service, .int .i64 c.1.number, .int .i64 c.1.version, .int .i64 c.1.image, .int .i64 c.1.state, .bool c.1.ending, .string c.1.berth] 87 wz) := by
   show Blk _ _ _ _
   rw [HWZ.out]
   exact hza.setAll #[.string c.1.service, .int .i64 c.1.number, .int .i64 c.1.version, .int .i64 c.1.image, .int .i64 c.1.state, .bool c.1.ending, .string c.1.berth] rfl
  have hbz : Below W'.heap.size W' wz := by
   rw [HWZ.out]
   exact below_setCells (Nat.le_refl _) _ _ _ ((Below.refl _ W').alloc (Nat.le_refl _) _)
  have HBZ := Hid.intro hbz
  clear hza hbz
  gi_wp2_with (refine wpListIn_store_to rfl 87 _ _ rfl W'.heap.size 0 #[.string c.1.service, .int .i64 c.1.number, .int .i64 c.1.version, .int .i64 c.1.image, .int .i64 c.1.state, .bool c.1.ending, .string c.1.berth] rfl rfl HTS.out isz_Scp (by simp [Value.oneCell']) wz HWZ.out ?_)
  have hbz := HBZ.out
  exact hKK.out _ _ (KeepsFrom.of_below hbz) (KpT.of_below hbz h4) ⟨H1.out.below hbz, H2.out.grown (grown_below hbz) (fun r e => by cases e), H3.out.trans (hbz.mono H3.out.size), Nat.le_trans h4 hbz.size⟩ ⟨W'.heap.size, h4, HKZ.out, rfl⟩
 ·rintro l' pre c a' W' ⟨h1, ⟨a, cap, hL, hO⟩, h3, h4⟩ ⟨Bx, hBx, hbx, rfl⟩ hlt'
  rw [List.length_map] at hL hO
  have H1 := Hid.intro h1
  have H3 := Hid.intro h3
  have HSN : Hid ((pre ++ [c]).map (fun c => enC c.1) = pre.map (fun c => enC c.1) ++ [enC c.1]) := by show _ = _; simp
  generalize hes : pre.map (fun c => enC c.1) = es at *
  have hel : es.length = pre.length := by rw [← hes]; simp
  rw [← hel] at hL hO hlt'
  clear hes hel h1 h3
  have HLX := Hid.intro (And.intro hL hbx)
  have HO := Hid.intro hO
  clear hL hbx hO
  refine wpIn_block ?_
  refine wpIn_until (S := fun wy => Blk w.heap.size #[.slice a es.length cap] 45 wy ∧ Blk Bx #[.string c.1.service, .int .i64 c.1.number, .int .i64 c.1.version, .int .i64 c.1.image, .int .i64 c.1.state, .bool c.1.ending, .string c.1.berth] 87 wy) 5 (by kernel_rfl) (by kernel_rfl) ⟨HLX.out.1.drew, HLX.out.2.drew⟩ (fun hS => ?_)
  refine tv 0 ⟨some 11, _, _, _, _, none⟩ (.slice a es.length cap) rfl (by rfl) ?_ hS ?_
  ·intro wy hy
   have h0 : wy.cell? ⟨w.heap.size, 0, none⟩ = some (.slice a es.length cap) := hy.1.cell rfl
   clear hy
   go_simp
  simp only [pA,pB,pC,pD]
  refine tu 1 ⟨some 12, _, _, _, _, none⟩ (.agg #[.string c.1.service, .int .i64 c.1.number, .int .i64 c.1.version, .int .i64 c.1.image, .int .i64 c.1.state, .bool c.1.ending, .string c.1.berth]) rfl (yieldsIf_load_mid (by rfl) _ _ rfl Bx (0) rfl [.string c.1.service, .int .i64 c.1.number, .int .i64 c.1.version, .int .i64 c.1.image, .int .i64 c.1.state, .bool c.1.ending, .string c.1.berth] _ (fun _ h => h.2.rangeA) Tryz.underlying87 rfl isz_Scp) hS ?_
  simp only [pA,pB,pC,pD]
  refine ru1 2 ⟨some 13, _, _, _, _, none⟩ rfl (fun KK hKK => ?_)
  go_simp
  refine (endOf_any c.1 _).mono ?_
  rintro e w3 ⟨rfl, hb3⟩
  have HB3 : Hid (Below W'.heap.size W' w3) := (Below.refl _ _).drew.trans hb3
  refine hKK.out _ _ ⟨hS.1.below hb3 hS.1.lt, hS.2.below hb3 hS.2.lt⟩ (fun hS => ?_)
  clear hKK KK hb3 HLX
  refine ru1 3 ⟨some 14, _, _, _, _, none⟩ rfl (fun KK hKK => ?_)
  go_simp
  have HNB : Hid (Blk w3.heap.size #[.int .i64 c.1.number, .int .i64 c.1.version] 125 (w3.alloc (Obj.cells #[.int .i64 c.1.number, .int .i64 c.1.version] 125))) := Blk.alloc _ _ _
  have hb4 : Below w3.heap.size w3 (w3.alloc (Obj.cells #[.int .i64 c.1.number, .int .i64 c.1.version] 125)) := (Below.refl _ _).alloc (Nat.le_refl _) _
  have HB4 : Hid (Below W'.heap.size W' (w3.alloc (Obj.cells #[.int .i64 c.1.number, .int .i64 c.1.version] 125))) := HB3.out.trans (hb4.mono HB3.out.size)
  refine hKK.out _ _ ⟨hS.1.below hb4 hS.1.lt, hS.2.below hb4 hS.2.lt⟩ (fun hS => ?_)
  clear hKK KK HB3 hb4
  generalize w3.alloc (Obj.cells #[.int .i64 c.1.number, .int .i64 c.1.version] 125) = w4 at *
  generalize w3.heap.size = gn at *
  have HO4 := Hid.intro (ownsRow_below HO.out HB4.out)
  have hs4 : w7.heap.size ≤ w4.heap.size := Nat.le_trans h4 HB4.out.size
  refine ru1 4 ⟨some 15, _, _, _, _, none⟩ rfl (fun KK hKK => ?_)
  refine step_append_lies _ rfl (.tmp 11) (.tmp 14) 45 rfl w7.heap.size 125 i0 _ 2 16 Tryz.underlying45 hi hz0 hz1 hz2 rfl (by decide) _ es.length _ rfl HO4.out ⟨gn, 0, none⟩ 1 1 [.int .i64 c.1.number, .int .i64 c.1.version] rfl rfl (two_at HNB.out) (by intro u hu; simp at hu; rcases hu with rfl | rfl <;> rfl) (by omega) (by unfold maxLen; omega) (by omega) hs4 _ rfl ?_
  intro g2 cap2 w5 hown hgrow hto hgl
  have hrw : ∀ r, (Value.slice a es.length cap).ownBlock = some r → w7.heap.size ≤ r ∧ ∃ cs, w4.heap[r]? = some (Obj.cells cs 125) := fun r e => by
   rcases HO4.out.2 with ⟨h9, _⟩ | ⟨g9, c9, cur, h9, hb9, hg9, _⟩
   ·rw [h9] at e; cases e
   ·rw [h9] at e; cases e; exact ⟨hb9, cur, hg9⟩
  have hLx : Blk w.heap.size #[.slice a es.length cap] 45 w5 := hS.1.grown hgrow (fun e => by have := (hrw _ e.symm).1; omega)
  have hXx : Blk Bx #[.string c.1.service, .int .i64 c.1.number, .int .i64 c.1.version, .int .i64 c.1.image, .int .i64 c.1.state, .bool c.1.ending, .string c.1.berth] 87 w5 := hS.2.grown hgrow (fun e => by obtain ⟨_, cs, h9⟩ := hrw _ e.symm; rw [show w4.heap[Bx]? = _ from hS.2] at h9; cases h9)
  have HK5 : Hid (KpT (fun k => k = w.heap.size) w7.heap.size W' w5) := (KpT.of_below HB4.out h4).trans (KpT.of_grown hgrow hs4 (fun r e => ⟨.inl (hrw r e).1, by obtain ⟨_, cs, h9⟩ := hrw r e; exact ⟨cs, _, h9, by unfold tyP; decide⟩⟩))
  have HF5 : Hid (KeepsFrom w7.heap.size W' w5) := (KeepsFrom.of_below HB4.out).trans (KeepsFrom.of_cells hgrow (fun r e => by obtain ⟨_, cs, h9⟩ := hrw r e; exact ⟨cs, _, h9⟩))
  have HG5 : Hid (SgK x p q Wb v w5) := (H1.out.below HB4.out).grown hgrow (fun r e => ⟨by have := (hrw r e).1; omega, by have := (hrw r e).1; omega⟩)
  have HB5 : Hid (Below w.heap.size w w5) := (H3.out.trans (HB4.out.mono H3.out.size)).grown hgrow (H3.out.trans (HB4.out.mono H3.out.size)).size (fun r e => by have := (hrw r e).1; omega)
  have hs5 : w7.heap.size ≤ w5.heap.size := Nat.le_trans hs4 hgrow.size
  have HOW := Hid.intro hown
  have hg2 : w.heap.size ≠ g2 := fun e => by
   rcases hown.2 with ⟨h9, _⟩ | ⟨g9, c9, cur, h9, hb9, hg9, _⟩
   ·cases h9
   ·cases h9; omega
  refine hKK.out _ _ ⟨hLx, hXx⟩ (fun hS => ?_)
  clear hKK KK hrw hXx hown
  simp only [pA,pB,pC,pD]
  have kz := hLx.cell (o := 0) rfl
  have fz := hLx.frozen 0
  refine wpAnyU_ready (rs := [5]) (by kernel_rfl) (by simp) (AllReadyU.last (o := ⟨none, _, _, _, _, none⟩) rfl (fun KK hKK => ?_))
  go_simp
  clear kz fz
  have HLf := Hid.intro (hLx.set 0 (.slice (some ⟨g2, 0, none⟩) (es.length + 1) cap2))
  refine hKK.out _ _ (wpAnyU_done (by kernel_rfl) ?_ _)
  clear hKK KK
  refine ⟨rfl, ?_⟩
  refine ⟨HF5.out.trans ((KeepsOthers.setCell _ _ _).from _), HK5.out.set hLx (by unfold tyP; decide) (.inr rfl) 0 _, ?_, ?_, HB5.out.setCell (p := ⟨w.heap.size, 0, none⟩) (Nat.le_refl _) _, by simp [World.setCell]; exact hs5⟩
  ·exact HG5.out.grown (grownBy_setCell' _ _ _) (fun r e => by cases e; exact ⟨hWb, by omega⟩)
  ·rw [HSN.out]
   refine ⟨some ⟨g2, 0, none⟩, cap2, by simpa using HLf.out, ?_⟩
   rw [enV_snoc]
   simp only [List.length_append, List.length_cons, List.length_nil]
   exact HOW.out.kept (grownBy_setCell' _ _ _) (.inr (fun e => hg2 (by cases e; rfl)))
 ·rintro D xs W' hD hcame ⟨h1, ⟨a, cap, hL, hO⟩, h3, h4⟩ hK
  have HE : Hid ((lvF x v.name qf).map enC = xs.map (fun c => enC c.1)) := by
   show _ = _
   rw [← hcame, List.map_map]
   rfl
  generalize xs.map (fun c => enC c.1) = es at *
  have k0 := hL.cell (o := 0) rfl
  have HO := Hid.intro hO
  have HD := Hid.intro hK
  clear hL hO hK
  go_wp2_with fail
  refine ⟨by simp, .inl ⟨_, _, rfl, run_takeDeferred HD.out, ?_⟩⟩
  refine ⟨_, results_tmp rfl _ _ _, ?_⟩
  rw [HE.out]
  refine ⟨a, cap, rfl, ?_, h3.trans ((Below.refl _ W').grown (grownBy_putObj' W' D _) h3.size (fun k e => by cases e; omega))⟩
  have hO := HO.out.kept (grownBy_putObj' W' D (.deferred none)) (by
   rcases HO.out.2 with ⟨h9, _⟩ | ⟨g9, c9, cur, h9, hb9, hg9, _⟩
   ·rw [h9]; exact .inl rfl
   ·rw [h9]
    refine .inr (fun e => ?_)
    cases e
    rw [HD.out] at hg9
    cases hg9)
  exact ⟨hO.1, hO.2.imp id (fun ⟨g9, c9, cur, h9, hb9, r⟩ => ⟨g9, c9, cur, h9, by omega, r⟩)⟩

end Go.Proofs.YtnggdpjfmpjlhaaGreat
