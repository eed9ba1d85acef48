/-
  How much is left to do, by the specification. Made by mksr1.py.
-/
import Derived.Test.YtfbmljdlkgiliaaGreatSk1
import Derived.Test.YtfbmljdlkgiliaaGreatSt6
import Derived.Test.YtfbmljdlkgiliaaGreatHst
namespace Go.Proofs.YtfbmljdlkgiliaaGreat
open Go.RowKit

/-- five numbers -/
structure Rk where
  a : Int
  b : Int
  c : Int
  d : Int
  e : Int

def p3 (x : Sbk) (v : Ssv) (i : Nat) : Bool := ((cAt x i).image != v.image) || drB x (cAt x i)
def p4 (x : Sbk) (i : Nat) : Bool := (cAt x i).state != 3
def absI (n : Int) : Int := if n < 0 then -n else n

/-- one service more -/
def rkS (x : Sbk) (r : Rk) (v : Ssv) : Rk :=
  if v.gone = true then ⟨r.a + 1, r.b + (cntS x v.name).ending + (cntS x v.name).live, r.c, r.d, r.e⟩
  else ⟨r.a, r.b + (cntS x v.name).ending, r.c + absI ((cntS x v.name).live - v.want), r.d + (((liveL x v.name).filter (p3 x v)).length : Int), r.e + (((liveL x v.name).filter (p4 x)).length : Int)⟩

def rkL (x : Sbk) (l : List Ssv) : Rk := l.foldl (rkS x) ⟨0, 0, 0, 0, 0⟩
theorem rkL_snoc (x : Sbk) (l : List Ssv) (v : Ssv) : rkL x (l ++ [v]) = rkS x (rkL x l) v := by unfold rkL; rw [List.foldl_append]; rfl

/-- numbers that are no more than they may be -/
def RkB (r : Rk) (n : Int) : Prop := 0 ≤ r.a ∧ r.a ≤ n ∧ 0 ≤ r.b ∧ r.b ≤ n ∧ 0 ≤ r.c ∧ r.c ≤ n ∧ 0 ≤ r.d ∧ r.d ≤ n ∧ 0 ≤ r.e ∧ r.e ≤ n

theorem cntL_two (s : ByteArray) (im : Int) : ∀ (l : List Scp) (t : Sct), 0 ≤ t.live → 0 ≤ t.ending → 0 ≤ (l.foldl (fun t c => stp t c s im) t).live ∧ 0 ≤ (l.foldl (fun t c => stp t c s im) t).ending ∧ (l.foldl (fun t c => stp t c s im) t).live + (l.foldl (fun t c => stp t c s im) t).ending ≤ t.live + t.ending + (l.length : Int)
  | [], t, h1, h2 => ⟨h1, h2, by simp⟩
  | c :: l, t, h1, h2 => by
    have h3 : 0 ≤ (stp t c s im).live ∧ 0 ≤ (stp t c s im).ending ∧ (stp t c s im).live + (stp t c s im).ending ≤ t.live + t.ending + 1 := by
      unfold stp
      split
      · split
        · simp; omega
        · simp; omega
      · omega
    have h4 := cntL_two s im l (stp t c s im) h3.1 h3.2.1
    simp only [List.foldl_cons, List.length_cons]
    refine ⟨h4.1, h4.2.1, ?_⟩
    push_cast
    omega

theorem cntS_two (x : Sbk) (s : ByteArray) : 0 ≤ (cntS x s).live ∧ 0 ≤ (cntS x s).ending ∧ (cntS x s).live + (cntS x s).ending ≤ (x.copies.length : Int) := by
  unfold cntS
  cases hf : x.services.find? (fun b => decide (b.name = s)) with
  | none => simp
  | some v =>
    have h := cntL_two s v.image x.copies ⟨0, 0, 0, 0, 0⟩ (Int.le_refl _) (Int.le_refl _)
    show 0 ≤ (cntL x.copies s v.image).live ∧ 0 ≤ (cntL x.copies s v.image).ending ∧ (cntL x.copies s v.image).live + (cntL x.copies s v.image).ending ≤ (x.copies.length : Int)
    unfold cntL
    simp only at h
    omega

theorem live200 {x : Sbk} (h : x.copies.length ≤ 200) (s : ByteArray) : (liveL x s).length ≤ 200 := by
  have := plTo_len (fun i => lvB s (cAt x i)) x.copies.length
  unfold liveL
  omega

theorem rkS_bnd {x : Sbk} {r : Rk} {v : Ssv} {n : Int} (h : RkB r n) (hl : x.copies.length ≤ 200) (hw : 0 ≤ v.want ∧ v.want ≤ 10) : RkB (rkS x r v) (n + 210) := by
  have h1 := cntS_two x v.name
  have h2 := live200 hl v.name
  have h3 := List.length_filter_le (p3 x v) (liveL x v.name)
  have h4 := List.length_filter_le (p4 x) (liveL x v.name)
  unfold RkB at *
  unfold rkS absI
  split
  · simp only
    omega
  · simp only
    split <;> omega

theorem filt1 {p : Nat → Bool} {l : List Nat} {k i : Nat} (h : l[k]? = some i) : (((l.take (k + 1)).filter p).length : Int) = (((l.take k).filter p).length : Int) + (if p i = true then 1 else 0) := by
  rw [List.take_add_one, h, List.filter_append, List.length_append]
  cases hp : p i <;> simp [hp]
theorem filt_len1 (p : Nat → Bool) (l : List Nat) (k : Nat) : ((l.take k).filter p).length ≤ l.length := by
  have h1 := List.length_filter_le p (l.take k)
  have h2 : (l.take k).length ≤ l.length := by rw [List.length_take]; omega
  omega

theorem pls_at1 {lo : Nat} {w : World} {a : Option Addr} {l : List Nat} {k i : Nat} (h : Pls lo w a l) (hk : l[k]? = some i) : ∃ b o, a = some ⟨b, o, none⟩ ∧ b < w.heap.size ∧ w.cell? ⟨b, o + k, none⟩ = some (.int .i64 i) := by
  have hk2 : (toI l)[k]? = some (i : Int) := by simp [toI, hk]
  obtain ⟨b, o, ea, _, hbl, hc⟩ := h.at hk2
  refine ⟨b, o, ea, hbl, ?_⟩
  have hc2 : w.cell? ⟨b, o + k * 1 + 0, none⟩ = some (.int .i64 (i : Int)) := hc
  simpa using hc2

def RkRes (x : Sbk) (w : World) (e : Ending) (w' : World) : Prop := ∃ (g : Nat) (r : Rk), e = .returned (.slice (some ⟨g, 0, none⟩) 5 5) ∧ w.heap.size ≤ g ∧ Blk g #[.int .i64 r.a, .int .i64 r.b, .int .i64 r.c, .int .i64 r.d, .int .i64 r.e] 3 w' ∧ (SVal x → r = rkL x x.services) ∧ (¬ SVal x → r = ⟨0, 0, 0, 0, 0⟩) ∧ Below w.heap.size w w'

set_option maxHeartbeats 32000000 in
set_option maxRecDepth 100000 in
theorem rank24_any (x : Sbk) (a1 : Option Addr) (c1 : Nat) (a2 : Option Addr) (c2 : Nat) (a3 : Option Addr) (c3 : Nat) (lo : Nat) (w : World) (n1 : SliceC SsvC 13 lo w a1 x.services) (n2 : SliceC ScpC 7 lo w a2 x.copies) (n3 : SliceC SbtC 2 lo w a3 x.berths) :
    Calls Tryz.prog 10 #[.agg #[.int .i64 x.now, .slice a1 x.services.length c1, .slice a2 x.copies.length c2, .slice a3 x.berths.length c3]] w fun e w' => RkRes x w e w' := by
  have HN1 := Hid.intro n1
  have HN2 := Hid.intro n2
  have HN3 := Hid.intro n3
  clear n1 n2 n3
  have h1 : Blk w.heap.size #[.int .i64 x.now, .slice a1 x.services.length c1, .slice a2 x.copies.length c2, .slice a3 x.berths.length c3] 33 (w.alloc (Obj.cells #[.int .i64 x.now, .slice a1 x.services.length c1, .slice a2 x.copies.length c2, .slice a3 x.berths.length c3] 33)) := Blk.alloc _ _ _
  have HB2 : Hid (Blk w.heap.size #[.int .i64 x.now, .slice a1 x.services.length c1, .slice a2 x.copies.length c2, .slice a3 x.berths.length c3] 33 ((w.alloc (Obj.cells #[.int .i64 x.now, .slice a1 x.services.length c1, .slice a2 x.copies.length c2, .slice a3 x.berths.length c3] 33)).alloc (Obj.cells #[.int .i64 0, .int .i64 0, .int .i64 0, .int .i64 0, .int .i64 0] 3))) := h1.below ((Below.refl _ _).alloc (Nat.le_refl _) _) h1.lt
  have HO2 : Hid (Blk (w.heap.size + 1) #[.int .i64 0, .int .i64 0, .int .i64 0, .int .i64 0, .int .i64 0] 3 ((w.alloc (Obj.cells #[.int .i64 x.now, .slice a1 x.services.length c1, .slice a2 x.copies.length c2, .slice a3 x.berths.length c3] 33)).alloc (Obj.cells #[.int .i64 0, .int .i64 0, .int .i64 0, .int .i64 0, .int .i64 0] 3))) := by
    have := Blk.alloc (w.alloc (Obj.cells #[.int .i64 x.now, .slice a1 x.services.length c1, .slice a2 x.copies.length c2, .slice a3 x.berths.length c3] 33)) #[.int .i64 0, .int .i64 0, .int .i64 0, .int .i64 0, .int .i64 0] 3
    show Blk _ _ _ _
    simpa using this
  have hB2 : Below w.heap.size w ((w.alloc (Obj.cells #[.int .i64 x.now, .slice a1 x.services.length c1, .slice a2 x.copies.length c2, .slice a3 x.berths.length c3] 33)).alloc (Obj.cells #[.int .i64 0, .int .i64 0, .int .i64 0, .int .i64 0, .int .i64 0] 3)) := by go_grown
  clear h1
  go_enter Tryz.func10, Tryz.ntmps10
  go_upto_region 2 with fail
  generalize (w.alloc (Obj.cells #[.int .i64 x.now, .slice a1 x.services.length c1, .slice a2 x.copies.length c2, .slice a3 x.berths.length c3] 33)).alloc (Obj.cells #[.int .i64 0, .int .i64 0, .int .i64 0, .int .i64 0, .int .i64 0] 3) = w2 at *
  have hgo : w.heap.size < w.heap.size + 1 := by omega
  generalize w.heap.size + 1 = go at *
  go_wp2_with (refine wpList_load_mid rfl 33 _ rfl w.heap.size 0 rfl [.int .i64 x.now, .slice a1 x.services.length c1, .slice a2 x.copies.length c2, .slice a3 x.berths.length c3] _ HB2.out.rangeA Tryz.underlying33 rfl isz_Sbk ?_)
  refine (specSVal_any x a1 c1 a2 c2 a3 c3 lo _ (HN1.out.below SsvC.holds hB2 (Nat.le_refl _)) (HN2.out.below ScpC.holds hB2 (Nat.le_refl _)) (HN3.out.below SbtC.holds hB2 (Nat.le_refl _))).mono ?_
  rintro e w3 ⟨t, rfl, ht, hb⟩
  have HB3 := Hid.intro (HB2.out.below hb HB2.out.lt)
  have HO3 := Hid.intro (HO2.out.below hb HO2.out.lt)
  have hB3 := hB2.trans (hb.mono hB2.size)
  clear hb HB2 HO2 hB2
  cases t with
  | false =>
    have HNV : Hid (¬ SVal x) := fun h => by have := ht.2 h; cases this
    clear ht
    go_wp2_with fail
    go_ret
    exact ⟨go, ⟨0, 0, 0, 0, 0⟩, rfl, by omega, HO3.out, fun h => absurd h HNV.out, fun _ => rfl, hB3⟩
  | true =>
    have HSV : Hid (SVal x) := ht.1 rfl
    have hl1 := HSV.out.l1
    have hl2 := HSV.out.l2
    clear ht
    go_wp2_with fail
    go_loopw [4] (fun i wr => ∃ (k : Nat) (r : Rk), k ≤ x.services.length ∧ i = .int .i64 k ∧ Hid (r = rkL x (x.services.take k)) ∧ Hid (RkB r (210 * k)) ∧ Hid (Blk w.heap.size #[.int .i64 x.now, .slice a1 x.services.length c1, .slice a2 x.copies.length c2, .slice a3 x.berths.length c3] 33 wr) ∧ Hid (Blk go #[.int .i64 r.a, .int .i64 r.b, .int .i64 r.c, .int .i64 r.d, .int .i64 r.e] 3 wr) ∧ Below w.heap.size w wr) (fun i _ => x.services.length - (intOf i).toNat)
    case atStart => exact ⟨0, ⟨0, 0, 0, 0, 0⟩, Nat.zero_le _, rfl, rfl, by show RkB _ _; unfold RkB; simp, HB3, HO3, hB3⟩
    case round =>
      clear HB3 HO3 hB3
      obtain ⟨k, r, hk, rfl, HR, HRB, HB, HO, hbel⟩ := hrel
      by_cases hlt : k < x.services.length
      case neg =>
        have hke : k = x.services.length := by omega
        subst hke
        have kb1 : wr.cell? ⟨w.heap.size, 1, none⟩ = some (.slice a1 x.services.length c1) := HB.out.cell rfl
        go_wp2_with fail
        go_ret
        exact ⟨go, r, rfl, by omega, HO.out, fun _ => by rw [HR.out, List.take_length], fun h => absurd HSV.out h, hbel⟩
      obtain ⟨y, hy⟩ : ∃ y, x.services[k]? = some y := ⟨x.services[k], List.getElem?_eq_getElem hlt⟩
      obtain ⟨b1, o1, rfl, _, hb1, hcc⟩ := HN1.out.at hy
      have HRY := Hid.intro (rngB (rngSsv hcc) hbel hb1)
      have hwt := sv_small (HSV.out.s1 k y hy)
      have HNX : Hid (rkL x (x.services.take (k + 1)) = rkS x r y) := by show _ = _; rw [List.take_add_one, hy]; show rkL x (x.services.take k ++ [y]) = _; rw [rkL_snoc, HR.out]
      have HNB := Hid.intro (rkS_bnd HRB.out hl2 (v := y) ⟨hwt.1, hwt.2.1⟩)
      have hrb := HRB.out
      unfold RkB at hrb
      have hcn := cntS_two x y.name
      clear hcc hy HR
      have kb1 : wr.cell? ⟨w.heap.size, 1, none⟩ = some (.slice (some ⟨b1, o1, none⟩) x.services.length c1) := HB.out.cell rfl
      have hza : Blk wr.heap.size #[.string ⟨#[]⟩, .int .i64 0, .bool false, .int .i64 0, .int .i64 0, .int .i64 0, .int .i64 0, .int .i64 0, .int .i64 0, .int .i64 0, .int .i64 0, .int .i64 0, .int .i64 0] 46 (wr.alloc (Obj.cells #[.string ⟨#[]⟩, .int .i64 0, .bool false, .int .i64 0, .int .i64 0, .int .i64 0, .int .i64 0, .int .i64 0, .int .i64 0, .int .i64 0, .int .i64 0, .int .i64 0, .int .i64 0] 46)) := Blk.alloc _ _ _
      have HTS : Hid ((wr.alloc (Obj.cells #[.string ⟨#[]⟩, .int .i64 0, .bool false, .int .i64 0, .int .i64 0, .int .i64 0, .int .i64 0, .int .i64 0, .int .i64 0, .int .i64 0, .int .i64 0, .int .i64 0, .int .i64 0] 46)).there wr.heap.size 0 13) := hza.there
      obtain ⟨w5, HW5⟩ : ∃ w5, Hid (w5 = (wr.alloc (Obj.cells #[.string ⟨#[]⟩, .int .i64 0, .bool false, .int .i64 0, .int .i64 0, .int .i64 0, .int .i64 0, .int .i64 0, .int .i64 0, .int .i64 0, .int .i64 0, .int .i64 0, .int .i64 0] 46)).setCells wr.heap.size 0 [.string y.name, .int .i64 y.version, .bool y.gone, .int .i64 y.image, .int .i64 y.want, .int .i64 y.down, .int .i64 y.over, .int .i64 y.next, .int .i64 y.per, .int .i64 y.least, .int .i64 y.most, .int .i64 y.load, .int .i64 y.cool]) := ⟨_, rfl⟩
      have HS5 : Hid (Blk wr.heap.size #[.string y.name, .int .i64 y.version, .bool y.gone, .int .i64 y.image, .int .i64 y.want, .int .i64 y.down, .int .i64 y.over, .int .i64 y.next, .int .i64 y.per, .int .i64 y.least, .int .i64 y.most, .int .i64 y.load, .int .i64 y.cool] 46 w5) := by
        show Blk _ _ _ _
        rw [HW5.out]
        exact hza.setAll #[.string y.name, .int .i64 y.version, .bool y.gone, .int .i64 y.image, .int .i64 y.want, .int .i64 y.down, .int .i64 y.over, .int .i64 y.next, .int .i64 y.per, .int .i64 y.least, .int .i64 y.most, .int .i64 y.load, .int .i64 y.cool] rfl
      have hbx : Below wr.heap.size wr w5 := by
        rw [HW5.out]
        exact below_setCells (Nat.le_refl _) _ _ _ ((Below.refl _ wr).alloc (Nat.le_refl _) _)
      have HB5 := Hid.intro (HB.out.below hbx HB.out.lt)
      have HO5 := Hid.intro (HO.out.below hbx HO.out.lt)
      have hB5 := hbel.trans (hbx.mono hbel.size)
      have hgg : go < wr.heap.size := HO.out.lt
      clear hza hbx HB HO hbel
      go_upto_region 8 with (first | (refine wpList_load_mid rfl 46 _ rfl b1 (o1 + k * 13) (by first | rfl | (simp [go_sem]; done)) [.string y.name, .int .i64 y.version, .bool y.gone, .int .i64 y.image, .int .i64 y.want, .int .i64 y.down, .int .i64 y.over, .int .i64 y.next, .int .i64 y.per, .int .i64 y.least, .int .i64 y.most, .int .i64 y.load, .int .i64 y.cool] _ HRY.out Tryz.underlying46 rfl isz_Ssv ?_) | (refine wpList_store_to rfl 46 _ _ rfl wr.heap.size 0 #[.string y.name, .int .i64 y.version, .bool y.gone, .int .i64 y.image, .int .i64 y.want, .int .i64 y.down, .int .i64 y.over, .int .i64 y.next, .int .i64 y.per, .int .i64 y.least, .int .i64 y.most, .int .i64 y.load, .int .i64 y.cool] rfl rfl HTS.out isz_Ssv (by simp [Value.oneCell']) w5 HW5.out ?_))
      clear HRY HTS HW5 kb1
      generalize wr.heap.size = gs at *
      have k_name : w5.cell? ⟨gs, 0, none⟩ = some (.string y.name) := HS5.out.cell rfl
      go_wp2_with (refine wpList_load_mid rfl 33 _ rfl w.heap.size 0 rfl [.int .i64 x.now, .slice (some ⟨b1, o1, none⟩) x.services.length c1, .slice a2 x.copies.length c2, .slice a3 x.berths.length c3] _ HB5.out.rangeA Tryz.underlying33 rfl isz_Sbk ?_)
      refine (count19_any x _ c1 a2 c2 a3 c3 lo y.name _ (HN1.out.below SsvC.holds hB5 (Nat.le_refl _)) (HN2.out.below ScpC.holds hB5 (Nat.le_refl _)) (by omega) (by omega)).mono ?_
      rintro e w6 ⟨rfl, hb⟩
      have HB6 := Hid.intro (HB5.out.below hb HB5.out.lt)
      have HO6 := Hid.intro (HO5.out.below hb HO5.out.lt)
      have HS6 := Hid.intro (HS5.out.below hb HS5.out.lt)
      have hB6 := hB5.trans (hb.mono hB5.size)
      clear hb HB5 HO5 HS5 hB5 k_name
      obtain ⟨T, hT⟩ : ∃ T, T = cntS x y.name := ⟨_, rfl⟩
      have HRS : Hid (rkS x r y = if y.gone = true then ⟨r.a + 1, r.b + T.ending + T.live, r.c, r.d, r.e⟩ else ⟨r.a, r.b + T.ending, r.c + absI (T.live - y.want), r.d + (((liveL x y.name).filter (p3 x y)).length : Int), r.e + (((liveL x y.name).filter (p4 x)).length : Int)⟩) := by show _ = _; rw [hT]; rfl
      rw [← hT] at hcn ⊢
      clear hT
      have hza : Blk w6.heap.size #[.int .i64 0, .int .i64 0, .int .i64 0, .int .i64 0, .int .i64 0] 66 (w6.alloc (Obj.cells #[.int .i64 0, .int .i64 0, .int .i64 0, .int .i64 0, .int .i64 0] 66)) := Blk.alloc _ _ _
      have HTS : Hid ((w6.alloc (Obj.cells #[.int .i64 0, .int .i64 0, .int .i64 0, .int .i64 0, .int .i64 0] 66)).there w6.heap.size 0 5) := hza.there
      obtain ⟨w7, HW7⟩ : ∃ wz, Hid (wz = (w6.alloc (Obj.cells #[.int .i64 0, .int .i64 0, .int .i64 0, .int .i64 0, .int .i64 0] 66)).setCells w6.heap.size 0 [.int .i64 T.live, .int .i64 T.ready, .int .i64 T.old, .int .i64 T.failed, .int .i64 T.ending]) := ⟨_, rfl⟩
      have HT7 : Hid (Blk w6.heap.size #[.int .i64 T.live, .int .i64 T.ready, .int .i64 T.old, .int .i64 T.failed, .int .i64 T.ending] 66 w7) := by
        show Blk _ _ _ _
        rw [HW7.out]
        exact hza.setAll #[.int .i64 T.live, .int .i64 T.ready, .int .i64 T.old, .int .i64 T.failed, .int .i64 T.ending] rfl
      have hb : Below w6.heap.size w6 w7 := by
        rw [HW7.out]
        exact below_setCells (Nat.le_refl _) _ _ _ ((Below.refl _ w6).alloc (Nat.le_refl _) _)
      have HB7 := Hid.intro (HB6.out.below hb HB6.out.lt)
      have HO7 := Hid.intro (HO6.out.below hb HO6.out.lt)
      have HS7 := Hid.intro (HS6.out.below hb HS6.out.lt)
      have hB7 := hB6.trans (hb.mono hB6.size)
      have hgt : gs < w6.heap.size := HS6.out.lt
      clear hza hb HB6 HO6 HS6 hB6
      go_upto_region 9 with (refine wpList_store_to rfl 66 _ _ rfl w6.heap.size 0 #[.int .i64 T.live, .int .i64 T.ready, .int .i64 T.old, .int .i64 T.failed, .int .i64 T.ending] (by first | rfl | (simp [go_sem]; done)) rfl HTS.out isz_Sct (by simp [Value.oneCell']) w7 HW7.out ?_)
      clear HTS HW7
      generalize w6.heap.size = gt at *
      have hgs : gs ≠ go ∧ gt ≠ go := by omega
      refine wp_region_until (S := fun wy => wy.cell? ⟨go, 1, none⟩ = some (.int .i64 (r.b)) ∧ wy.cell? ⟨gt, 4, none⟩ = some (.int .i64 T.ending)) 8 (by kernel_rfl) ⟨HO7.out.drew.cell rfl, HT7.out.drew.cell rfl⟩ (fun hS => ?_)
      replace HB7 := Hid.intro HB7.out.drew
      replace HO7 := Hid.intro HO7.out.drew
      replace HS7 := Hid.intro HS7.out.drew
      replace HT7 := Hid.intro HT7.out.drew
      replace hB7 := hB7.drew
      generalize w7.drew = wn at *
      refine wpAnyU_take (i := 0) (oi := { dst := some 32, op := _, type := _, pos := _, after := _, guard := none }) (v := .slice (some ⟨go, 0, none⟩) 5 5) rfl (by kernel_rfl) (by kernel_rfl) (by kernel_rfl) (by kernel_rfl) (fun _ _ _ h => h) (Or.inl ⟨by rfl, ?_⟩) hS ?_
      · intro wy hy
        clear hy
        go_simp
      simp only [Act.put, List.setIfInBounds_toArray, List.set_cons_zero, List.set_cons_succ]
      refine wpAnyU_take (i := 1) (oi := { dst := some 33, op := _, type := _, pos := _, after := _, guard := none }) (v := .slice (some ⟨go, 0, none⟩) 5 5) rfl (by kernel_rfl) (by kernel_rfl) (by kernel_rfl) (by kernel_rfl) (fun _ _ _ h => h) (Or.inl ⟨by rfl, ?_⟩) hS ?_
      · intro wy hy
        clear hy
        go_simp
      simp only [Act.put, List.setIfInBounds_toArray, List.set_cons_zero, List.set_cons_succ]
      refine wpAnyU_take (i := 2) (oi := { dst := some 34, op := _, type := _, pos := _, after := _, guard := none }) (v := .pointer (some ⟨go, 1, none⟩)) rfl (by kernel_rfl) (by kernel_rfl) (by kernel_rfl) (by kernel_rfl) (fun _ _ _ h => h) (Or.inl ⟨by rfl, ?_⟩) hS ?_
      · intro wy hy
        clear hy
        go_simp
      simp only [Act.put, List.setIfInBounds_toArray, List.set_cons_zero, List.set_cons_succ]
      refine wpAnyU_take (i := 3) (oi := { dst := some 35, op := _, type := _, pos := _, after := _, guard := none }) (v := .int .i64 (r.b)) rfl (by kernel_rfl) (by kernel_rfl) (by kernel_rfl) (by kernel_rfl) (fun _ _ _ h => h) (Or.inl ⟨by rfl, ?_⟩) hS ?_
      · intro wy hy
        have h0 := hy.1
        clear hy
        go_simp
      simp only [Act.put, List.setIfInBounds_toArray, List.set_cons_zero, List.set_cons_succ]
      refine wpAnyU_take (i := 4) (oi := { dst := some 36, op := _, type := _, pos := _, after := _, guard := none }) (v := .pointer (some ⟨gt, 4, none⟩)) rfl (by kernel_rfl) (by kernel_rfl) (by kernel_rfl) (by kernel_rfl) (fun _ _ _ h => h) (Or.inl ⟨by rfl, ?_⟩) hS ?_
      · intro wy hy
        clear hy
        go_simp
      simp only [Act.put, List.setIfInBounds_toArray, List.set_cons_zero, List.set_cons_succ]
      refine wpAnyU_take (i := 5) (oi := { dst := some 37, op := _, type := _, pos := _, after := _, guard := none }) (v := .int .i64 T.ending) rfl (by kernel_rfl) (by kernel_rfl) (by kernel_rfl) (by kernel_rfl) (fun _ _ _ h => h) (Or.inl ⟨by rfl, ?_⟩) hS ?_
      · intro wy hy
        have h0 := hy.2
        clear hy
        go_simp
      simp only [Act.put, List.setIfInBounds_toArray, List.set_cons_zero, List.set_cons_succ]
      refine wpAnyU_take (i := 6) (oi := { dst := some 38, op := _, type := _, pos := _, after := _, guard := none }) (v := .int .i64 (r.b + T.ending)) rfl (by kernel_rfl) (by kernel_rfl) (by kernel_rfl) (by kernel_rfl) (fun _ _ _ h => h) (Or.inl ⟨by rfl, ?_⟩) hS ?_
      · intro wy hy
        clear hy
        (go_simp; rw [IntKind.wrap_i64]; omega)
      simp only [Act.put, List.setIfInBounds_toArray, List.set_cons_zero, List.set_cons_succ]
      refine wpAnyU_take (i := 7) (oi := { dst := some 39, op := _, type := _, pos := _, after := _, guard := none }) (v := .pointer (some ⟨go, 1, none⟩)) rfl (by kernel_rfl) (by kernel_rfl) (by kernel_rfl) (by kernel_rfl) (fun _ _ _ h => h) (Or.inl ⟨by rfl, ?_⟩) hS ?_
      · intro wy hy
        clear hy
        go_simp
      simp only [Act.put, List.setIfInBounds_toArray, List.set_cons_zero, List.set_cons_succ]
      have kz := HO7.out.cell (o := 1) rfl
      have fz := HO7.out.frozen 1
      refine wpAnyU_ready (rs := [8]) (by kernel_rfl) (by simp) (AllReadyU.last (o := { dst := none, op := _, type := _, pos := _, after := _, guard := none }) rfl (fun KK hKK => ?_))
      go_simp
      clear kz fz
      have HO8 := Hid.intro (HO7.out.set 1 (.int .i64 (r.b + T.ending)))
      have HB8 := Hid.intro (HB7.out.other (a := ⟨go, 1, none⟩) (by show _ ≠ go; omega) (.int .i64 (r.b + T.ending)))
      have HS8 := Hid.intro (HS7.out.other (a := ⟨go, 1, none⟩) (by show _ ≠ go; omega) (.int .i64 (r.b + T.ending)))
      have HT8 := Hid.intro (HT7.out.other (a := ⟨go, 1, none⟩) (by show _ ≠ go; omega) (.int .i64 (r.b + T.ending)))
      have hB8 : Below w.heap.size w (wn.setCell ⟨go, 1, none⟩ (.int .i64 (r.b + T.ending))) := hB7.setCell (by show w.heap.size ≤ go; omega) _
      refine hKK.out _ _ (wpAnyU_done (by kernel_rfl) ?_ _)
      clear hKK KK hS HO7 HB7 HS7 HT7 hB7
      generalize wn.setCell ⟨go, 1, none⟩ (.int .i64 (r.b + T.ending)) = w8 at *
      have hgo2 : y.gone = true ∨ y.gone = false := by cases y.gone <;> simp
      rcases hgo2 with hg | hg
      · rw [if_pos hg] at HRS
        have k_gone : w8.cell? ⟨gs, 2, none⟩ = some (.bool true) := by rw [← hg]; exact HS8.out.cell rfl
        clear hg
        have ka : w8.cell? ⟨go, 0, none⟩ = some (.int .i64 r.a) := HO8.out.cell rfl
        have fa := HO8.out.frozen 0
        have HWA : IntKind.i64.wrap (r.a + 1) = r.a + 1 := by rw [IntKind.wrap_i64]; omega
        have HO9 := Hid.intro (HO8.out.set 0 (.int .i64 (r.a + 1)))
        have HB9 := Hid.intro (HB8.out.other (a := ⟨go, 0, none⟩) (by show _ ≠ go; omega) (.int .i64 (r.a + 1)))
        have HS9 := Hid.intro (HS8.out.other (a := ⟨go, 0, none⟩) (by show _ ≠ go; omega) (.int .i64 (r.a + 1)))
        have HT9 := Hid.intro (HT8.out.other (a := ⟨go, 0, none⟩) (by show _ ≠ go; omega) (.int .i64 (r.a + 1)))
        have hB9 : Below w.heap.size w (w8.setCell ⟨go, 0, none⟩ (.int .i64 (r.a + 1))) := hB8.setCell (by show w.heap.size ≤ go; omega) _
        go_upto_region 12 with fail
        clear ka fa k_gone HO8 HB8 HS8 HT8 hB8
        generalize w8.setCell ⟨go, 0, none⟩ (.int .i64 (r.a + 1)) = w9 at *
        refine wp_region_until (S := fun wy => wy.cell? ⟨go, 1, none⟩ = some (.int .i64 (r.b + T.ending)) ∧ wy.cell? ⟨gt, 0, none⟩ = some (.int .i64 T.live)) 8 (by kernel_rfl) ⟨HO9.out.drew.cell rfl, HT9.out.drew.cell rfl⟩ (fun hS => ?_)
        replace HB9 := Hid.intro HB9.out.drew
        replace HO9 := Hid.intro HO9.out.drew
        replace HS9 := Hid.intro HS9.out.drew
        replace HT9 := Hid.intro HT9.out.drew
        replace hB9 := hB9.drew
        generalize w9.drew = wn at *
        refine wpAnyU_take (i := 0) (oi := { dst := some 47, op := _, type := _, pos := _, after := _, guard := none }) (v := .slice (some ⟨go, 0, none⟩) 5 5) rfl (by kernel_rfl) (by kernel_rfl) (by kernel_rfl) (by kernel_rfl) (fun _ _ _ h => h) (Or.inl ⟨by rfl, ?_⟩) hS ?_
        · intro wy hy
          clear hy
          go_simp
        simp only [Act.put, List.setIfInBounds_toArray, List.set_cons_zero, List.set_cons_succ]
        refine wpAnyU_take (i := 1) (oi := { dst := some 48, op := _, type := _, pos := _, after := _, guard := none }) (v := .slice (some ⟨go, 0, none⟩) 5 5) rfl (by kernel_rfl) (by kernel_rfl) (by kernel_rfl) (by kernel_rfl) (fun _ _ _ h => h) (Or.inl ⟨by rfl, ?_⟩) hS ?_
        · intro wy hy
          clear hy
          go_simp
        simp only [Act.put, List.setIfInBounds_toArray, List.set_cons_zero, List.set_cons_succ]
        refine wpAnyU_take (i := 2) (oi := { dst := some 49, op := _, type := _, pos := _, after := _, guard := none }) (v := .pointer (some ⟨go, 1, none⟩)) rfl (by kernel_rfl) (by kernel_rfl) (by kernel_rfl) (by kernel_rfl) (fun _ _ _ h => h) (Or.inl ⟨by rfl, ?_⟩) hS ?_
        · intro wy hy
          clear hy
          go_simp
        simp only [Act.put, List.setIfInBounds_toArray, List.set_cons_zero, List.set_cons_succ]
        refine wpAnyU_take (i := 3) (oi := { dst := some 50, op := _, type := _, pos := _, after := _, guard := none }) (v := .int .i64 (r.b + T.ending)) rfl (by kernel_rfl) (by kernel_rfl) (by kernel_rfl) (by kernel_rfl) (fun _ _ _ h => h) (Or.inl ⟨by rfl, ?_⟩) hS ?_
        · intro wy hy
          have h0 := hy.1
          clear hy
          go_simp
        simp only [Act.put, List.setIfInBounds_toArray, List.set_cons_zero, List.set_cons_succ]
        refine wpAnyU_take (i := 4) (oi := { dst := some 51, op := _, type := _, pos := _, after := _, guard := none }) (v := .pointer (some ⟨gt, 0, none⟩)) rfl (by kernel_rfl) (by kernel_rfl) (by kernel_rfl) (by kernel_rfl) (fun _ _ _ h => h) (Or.inl ⟨by rfl, ?_⟩) hS ?_
        · intro wy hy
          clear hy
          go_simp
        simp only [Act.put, List.setIfInBounds_toArray, List.set_cons_zero, List.set_cons_succ]
        refine wpAnyU_take (i := 5) (oi := { dst := some 52, op := _, type := _, pos := _, after := _, guard := none }) (v := .int .i64 T.live) rfl (by kernel_rfl) (by kernel_rfl) (by kernel_rfl) (by kernel_rfl) (fun _ _ _ h => h) (Or.inl ⟨by rfl, ?_⟩) hS ?_
        · intro wy hy
          have h0 := hy.2
          clear hy
          go_simp
        simp only [Act.put, List.setIfInBounds_toArray, List.set_cons_zero, List.set_cons_succ]
        refine wpAnyU_take (i := 6) (oi := { dst := some 53, op := _, type := _, pos := _, after := _, guard := none }) (v := .int .i64 (r.b + T.ending + T.live)) rfl (by kernel_rfl) (by kernel_rfl) (by kernel_rfl) (by kernel_rfl) (fun _ _ _ h => h) (Or.inl ⟨by rfl, ?_⟩) hS ?_
        · intro wy hy
          clear hy
          (go_simp; rw [IntKind.wrap_i64]; omega)
        simp only [Act.put, List.setIfInBounds_toArray, List.set_cons_zero, List.set_cons_succ]
        refine wpAnyU_take (i := 7) (oi := { dst := some 54, op := _, type := _, pos := _, after := _, guard := none }) (v := .pointer (some ⟨go, 1, none⟩)) rfl (by kernel_rfl) (by kernel_rfl) (by kernel_rfl) (by kernel_rfl) (fun _ _ _ h => h) (Or.inl ⟨by rfl, ?_⟩) hS ?_
        · intro wy hy
          clear hy
          go_simp
        simp only [Act.put, List.setIfInBounds_toArray, List.set_cons_zero, List.set_cons_succ]
        have kz := HO9.out.cell (o := 1) rfl
        have fz := HO9.out.frozen 1
        refine wpAnyU_ready (rs := [8]) (by kernel_rfl) (by simp) (AllReadyU.last (o := { dst := none, op := _, type := _, pos := _, after := _, guard := none }) rfl (fun KK hKK => ?_))
        go_simp
        clear kz fz
        have HO10 := Hid.intro (HO9.out.set 1 (.int .i64 (r.b + T.ending + T.live)))
        have HB10 := Hid.intro (HB9.out.other (a := ⟨go, 1, none⟩) (by show _ ≠ go; omega) (.int .i64 (r.b + T.ending + T.live)))
        have HS10 := Hid.intro (HS9.out.other (a := ⟨go, 1, none⟩) (by show _ ≠ go; omega) (.int .i64 (r.b + T.ending + T.live)))
        have HT10 := Hid.intro (HT9.out.other (a := ⟨go, 1, none⟩) (by show _ ≠ go; omega) (.int .i64 (r.b + T.ending + T.live)))
        have hB10 : Below w.heap.size w (wn.setCell ⟨go, 1, none⟩ (.int .i64 (r.b + T.ending + T.live))) := hB9.setCell (by show w.heap.size ≤ go; omega) _
        refine hKK.out _ _ (wpAnyU_done (by kernel_rfl) ?_ _)
        clear hKK KK hS HO9 HB9 HS9 HT9 hB9
        generalize wn.setCell ⟨go, 1, none⟩ (.int .i64 (r.b + T.ending + T.live)) = w10 at *
        go_wp2_with fail
        go_roundw
        case rel => exact ⟨k + 1, ⟨r.a + 1, r.b + T.ending + T.live, r.c, r.d, r.e⟩, by omega, by go_num, by show _ = _; rw [HNX.out, HRS.out], by show RkB _ _; rw [← HRS.out, show (210 * ((k + 1 : Nat) : Int)) = 210 * (k : Int) + 210 by omega]; exact HNB.out, HB10, HO10, hB10⟩
        case measure => simp [intOf]; omega
      · rw [if_neg (by rw [hg]; exact Bool.false_ne_true)] at HRS
        have k_gone : w8.cell? ⟨gs, 2, none⟩ = some (.bool false) := by rw [← hg]; exact HS8.out.cell rfl
        clear hg
        have k_live : w8.cell? ⟨gt, 0, none⟩ = some (.int .i64 T.live) := HT8.out.cell rfl
        have k_want : w8.cell? ⟨gs, 4, none⟩ = some (.int .i64 y.want) := HS8.out.cell rfl
        obtain ⟨h20, h21, _, _⟩ := hwt
        obtain ⟨Dd, hDd⟩ : ∃ d, d = T.live - y.want := ⟨_, rfl⟩
        have HWS : IntKind.i64.wrap (T.live - y.want) = Dd := by rw [IntKind.wrap_i64]; omega
        have HWN : IntKind.i64.wrap (-Dd) = -Dd := by rw [IntKind.wrap_i64]; omega
        obtain ⟨Ab, hAb⟩ : ∃ d, d = absI Dd := ⟨_, rfl⟩
        have hab : 0 ≤ Ab ∧ Ab ≤ 210 := by rw [hAb]; unfold absI; split <;> omega
        rw [← hDd, ← hAb] at HRS
        have hDb : -10 ≤ Dd ∧ Dd ≤ 200 := by omega
        clear hDd HWN
        have kc : w8.cell? ⟨go, 2, none⟩ = some (.int .i64 r.c) := HO8.out.cell rfl
        have fc := HO8.out.frozen 2
        have HO9 := Hid.intro (HO8.out.set 2 (.int .i64 (r.c + Ab)))
        have HB9 := Hid.intro (HB8.out.other (a := ⟨go, 2, none⟩) (by show _ ≠ go; omega) (.int .i64 (r.c + Ab)))
        have HS9 := Hid.intro (HS8.out.other (a := ⟨go, 2, none⟩) (by show _ ≠ go; omega) (.int .i64 (r.c + Ab)))
        have hB9 : Below w.heap.size w (w8.setCell ⟨go, 2, none⟩ (.int .i64 (r.c + Ab))) := hB8.setCell (by show w.heap.size ≤ go; omega) _
        by_cases hd : Dd < 0
        case pos =>
          have HWN : IntKind.i64.wrap (-Dd) = Ab := by rw [hAb, IntKind.wrap_i64]; unfold absI; rw [if_pos hd]; omega
          have HWC : IntKind.i64.wrap (r.c + Ab) = r.c + Ab := by rw [IntKind.wrap_i64]; omega
          clear hAb
          go_upto_region 17 with fail
          clear kc fc HO8 HB8 HS8 HT8 hB8 k_gone k_live k_want
          generalize w8.setCell ⟨go, 2, none⟩ (.int .i64 (r.c + Ab)) = w9 at *
          have k_name : w9.cell? ⟨gs, 0, none⟩ = some (.string y.name) := HS9.out.cell rfl
          go_wp2_with (refine wpList_load_mid rfl 33 _ rfl w.heap.size 0 rfl [.int .i64 x.now, .slice (some ⟨b1, o1, none⟩) x.services.length c1, .slice a2 x.copies.length c2, .slice a3 x.berths.length c3] _ HB9.out.rangeA Tryz.underlying33 rfl isz_Sbk ?_)
          refine (live22_any x _ c1 a2 c2 a3 c3 lo y.name _ (HN2.out.below ScpC.holds hB9 (Nat.le_refl _)) (by omega)).mono ?_
          rintro e wA ⟨gl, ql, rfl, hpl, hb⟩
          have HBA := Hid.intro (HB9.out.below hb HB9.out.lt)
          have HOA := Hid.intro (HO9.out.below hb HO9.out.lt)
          have HSA := Hid.intro (HS9.out.below hb HS9.out.lt)
          have hBA := hB9.trans (hb.mono hB9.size)
          have hgo9 : go < w9.heap.size := HO9.out.lt
          have HPA := Hid.intro hpl
          have hll := live200 hl2 y.name
          have HIN : Hid (∀ i ∈ liveL x y.name, i < x.copies.length) := fun i hi => plTo_lt hi
          clear hb hpl HB9 HO9 HS9 hB9 k_name
          obtain ⟨l, hl⟩ : ∃ l, l = liveL x y.name := ⟨_, rfl⟩
          rw [← hl] at HPA hll HIN HRS ⊢
          clear hl
          go_wp2_with fail
          go_loopw [9] (fun q wr => ∃ j : Nat, j ≤ l.length ∧ q = .int .i64 j ∧ Hid (Blk w.heap.size #[.int .i64 x.now, .slice (some ⟨b1, o1, none⟩) x.services.length c1, .slice a2 x.copies.length c2, .slice a3 x.berths.length c3] 33 wr) ∧ Hid (Blk go #[.int .i64 r.a, .int .i64 (r.b + T.ending), .int .i64 (r.c + Ab), .int .i64 (r.d + (((l.take j).filter (p3 x y)).length : Int)), .int .i64 (r.e + (((l.take j).filter (p4 x)).length : Int))] 3 wr) ∧ Hid (Blk gs #[.string y.name, .int .i64 y.version, .bool y.gone, .int .i64 y.image, .int .i64 y.want, .int .i64 y.down, .int .i64 y.over, .int .i64 y.next, .int .i64 y.per, .int .i64 y.least, .int .i64 y.most, .int .i64 y.load, .int .i64 y.cool] 46 wr) ∧ Hid (Pls w9.heap.size wr (some ⟨gl, 0, none⟩) l) ∧ Below w.heap.size w wr) (fun q _ => l.length - (intOf q).toNat)
          case atStart => exact ⟨0, Nat.zero_le _, rfl, HBA, by simpa using HOA, HSA, HPA, hBA⟩
          case round =>
            clear HBA HOA HSA HPA hBA
            rename_i wr
            obtain ⟨j, hj, rfl, HBj, HOj, HSj, HPj, hBj⟩ := hrel
            by_cases hlj : j < l.length
            case neg =>
              have hje : j = l.length := by omega
              subst hje
              rw [List.take_length] at HOj
              go_wp2_with fail
              go_roundw
              case rel => exact ⟨k + 1, _, by omega, by go_num, by show _ = _; rw [HNX.out, HRS.out], by show RkB _ _; rw [← HRS.out, show (210 * ((k + 1 : Nat) : Int)) = 210 * (k : Int) + 210 by omega]; exact HNB.out, HBj, HOj, hBj⟩
              case measure => simp [intOf]; omega
            obtain ⟨i, hki⟩ : ∃ i, l[j]? = some i := ⟨l[j], List.getElem?_eq_getElem hlj⟩
            have hil : i < x.copies.length := HIN.out i (List.mem_of_getElem? hki)
            obtain ⟨c, hc⟩ : ∃ c, x.copies[i]? = some c := ⟨x.copies[i], List.getElem?_eq_getElem hil⟩
            obtain ⟨b4, o4, ea, hbl, hcl⟩ := pls_at1 HPj.out hki
            cases ea
            obtain ⟨b2, o2, rfl, _, hb2, hcc⟩ := HN2.out.at hc
            have HRC := Hid.intro (rngScp hcc)
            have HC1 : Hid (wr.cell? ⟨gl, j, none⟩ = some (.int .i64 i)) := by show _ = _; simpa using hcl
            have HF3 := Hid.intro (filt1 (p := p3 x y) hki)
            have HF4 := Hid.intro (filt1 (p := p4 x) hki)
            have HP3 : Hid (p3 x y i = ((c.image != y.image) || drB x c)) := by show _ = _; unfold p3; rw [cAt_at hc]
            have HP4 : Hid (p4 x i = (c.state != 3)) := by show _ = _; unfold p4; rw [cAt_at hc]
            have hf3 := filt_len1 (p3 x y) l j
            have hf4 := filt_len1 (p4 x) l j
            clear hcc hc hki hcl
            obtain ⟨A3, h3⟩ : ∃ n : Int, n = (((l.take j).filter (p3 x y)).length : Int) := ⟨_, rfl⟩
            obtain ⟨A4, h4⟩ : ∃ n : Int, n = (((l.take j).filter (p4 x)).length : Int) := ⟨_, rfl⟩
            rw [← h3] at HOj HF3
            rw [← h4] at HOj HF4
            have ha34 : 0 ≤ A3 ∧ A3 ≤ 200 ∧ 0 ≤ A4 ∧ A4 ≤ 200 := by omega
            clear h3 h4
            go_upto_region 21 with fail
            go_cut [10] (fun p wz => ∃ gk : Nat, p = .pointer (some ⟨gk, 0, none⟩) ∧ wr.heap.size ≤ gk ∧ Hid (Blk gk #[.string c.service, .int .i64 c.number, .int .i64 c.version, .int .i64 c.image, .int .i64 c.state, .bool c.ending, .string c.berth] 70 wz) ∧ Below wr.heap.size wr wz)
            case first =>
              have HSB : Hid (∀ wz, Below wr.heap.size wr wz → (fun wy => Blk w.heap.size #[.int .i64 x.now, .slice (some ⟨b1, o1, none⟩) x.services.length c1, .slice (some ⟨b2, o2, none⟩) x.copies.length c2, .slice a3 x.berths.length c3] 33 wy ∧ wy.cell? ⟨gl, j, none⟩ = some (.int .i64 i) ∧ wy.rangeAt b2 (o2 + i * 7) [.string c.service, .int .i64 c.number, .int .i64 c.version, .int .i64 c.image, .int .i64 c.state, .bool c.ending, .string c.berth]) wz) := fun wz hb => ⟨HBj.out.below hb HBj.out.lt, (hb.cell (p := ⟨gl, j, none⟩) hbl).trans HC1.out, rngB HRC.out (hBj.trans (hb.mono hBj.size)) hb2⟩
              refine wp_region_held_drew (S := fun wy => Blk w.heap.size #[.int .i64 x.now, .slice (some ⟨b1, o1, none⟩) x.services.length c1, .slice (some ⟨b2, o2, none⟩) x.copies.length c2, .slice a3 x.berths.length c3] 33 wy ∧ wy.cell? ⟨gl, j, none⟩ = some (.int .i64 i) ∧ wy.rangeAt b2 (o2 + i * 7) [.string c.service, .int .i64 c.number, .int .i64 c.version, .int .i64 c.image, .int .i64 c.state, .bool c.ending, .string c.berth]) (by kernel_rfl) (HSB.out _ (Below.refl _ _).drew) (fun hS => ?_)
              have hB3 : Below wr.heap.size wr wr.drew := (Below.refl _ _).drew
              obtain ⟨w3, HW3⟩ : ∃ w3, Hid (w3 = wr.drew) := ⟨_, rfl⟩
              rw [← HW3.out] at hS hB3 ⊢
              clear HW3
              refine wpAnyH_take (i := 0) (oi := { dst := some 81, op := _, type := _, pos := _, after := _, guard := none }) (v := .pointer (some ⟨w.heap.size, 2, none⟩)) rfl (by kernel_rfl) (by kernel_rfl) (by kernel_rfl) (fun _ _ _ h => h) (Or.inl ⟨by rfl, ?_⟩) hS ?_
              · intro wy hy
                clear hy
                go_simp
              simp only [Act.put, List.setIfInBounds_toArray, List.set_cons_zero, List.set_cons_succ]
              refine wpAnyH_take (i := 1) (oi := { dst := some 82, op := _, type := _, pos := _, after := _, guard := none }) (v := .slice (some ⟨b2, o2, none⟩) x.copies.length c2) rfl (by kernel_rfl) (by kernel_rfl) (by kernel_rfl) (fun _ _ _ h => h) (Or.inl ⟨by rfl, ?_⟩) hS ?_
              · intro wy hy
                have h0 := hy.1.cell (o := 2) rfl
                clear hy
                go_simp
              simp only [Act.put, List.setIfInBounds_toArray, List.set_cons_zero, List.set_cons_succ]
              refine wpAnyH_take (i := 2) (oi := { dst := some 83, op := _, type := _, pos := _, after := _, guard := none }) (v := .slice (some ⟨gl, 0, none⟩) l.length ql) rfl (by kernel_rfl) (by kernel_rfl) (by kernel_rfl) (fun _ _ _ h => h) (Or.inl ⟨by rfl, ?_⟩) hS ?_
              · intro wy hy
                clear hy
                go_simp
              simp only [Act.put, List.setIfInBounds_toArray, List.set_cons_zero, List.set_cons_succ]
              refine wpAnyH_take (i := 3) (oi := { dst := some 84, op := _, type := _, pos := _, after := _, guard := none }) (v := .int .i64 j) rfl (by kernel_rfl) (by kernel_rfl) (by kernel_rfl) (fun _ _ _ h => h) (Or.inl ⟨by rfl, ?_⟩) hS ?_
              · intro wy hy
                clear hy
                go_simp
              simp only [Act.put, List.setIfInBounds_toArray, List.set_cons_zero, List.set_cons_succ]
              refine wpAnyH_take (i := 4) (oi := { dst := some 85, op := _, type := _, pos := _, after := _, guard := none }) (v := .pointer (some ⟨gl, j, none⟩)) rfl (by kernel_rfl) (by kernel_rfl) (by kernel_rfl) (fun _ _ _ h => h) (Or.inl ⟨by rfl, ?_⟩) hS ?_
              · intro wy hy
                clear hy
                first | (go_simp; done) | (go_simp; omega) | (go_simp; intro hh; omega)
              simp only [Act.put, List.setIfInBounds_toArray, List.set_cons_zero, List.set_cons_succ]
              refine wpAnyH_take (i := 5) (oi := { dst := some 86, op := _, type := _, pos := _, after := _, guard := none }) (v := .int .i64 i) rfl (by kernel_rfl) (by kernel_rfl) (by kernel_rfl) (fun _ _ _ h => h) (Or.inl ⟨by rfl, ?_⟩) hS ?_
              · intro wy hy
                have h0 := hy.2.1
                clear hy
                go_simp
              simp only [Act.put, List.setIfInBounds_toArray, List.set_cons_zero, List.set_cons_succ]
              refine wpAnyH_take (i := 6) (oi := { dst := some 87, op := _, type := _, pos := _, after := _, guard := none }) (v := .pointer (some ⟨b2, o2 + i * 7, none⟩)) rfl (by kernel_rfl) (by kernel_rfl) (by kernel_rfl) (fun _ _ _ h => h) (Or.inl ⟨by rfl, ?_⟩) hS ?_
              · intro wy hy
                clear hy
                first | (go_simp; done) | (go_simp; omega) | (go_simp; intro hh; omega)
              simp only [Act.put, List.setIfInBounds_toArray, List.set_cons_zero, List.set_cons_succ]
              refine wpAnyH_take (i := 7) (oi := { dst := some 88, op := _, type := _, pos := _, after := _, guard := none }) (v := .agg #[.string c.service, .int .i64 c.number, .int .i64 c.version, .int .i64 c.image, .int .i64 c.state, .bool c.ending, .string c.berth]) rfl (by kernel_rfl) (by kernel_rfl) (by kernel_rfl) (fun _ _ _ h => h) (yieldsIf_load_mid (by rfl) _ _ rfl b2 (o2 + i * 7) rfl [.string c.service, .int .i64 c.number, .int .i64 c.version, .int .i64 c.image, .int .i64 c.state, .bool c.ending, .string c.berth] _ (fun _ h => h.2.2) Tryz.underlying70 rfl isz_Scp) hS ?_
              simp only [Act.put, List.setIfInBounds_toArray, List.set_cons_zero, List.set_cons_succ]
              refine wpAnyH_ready (rs := [8]) (by kernel_rfl) (by simp) (AllReadyH.cons (o := { dst := some 10, op := _, type := _, pos := _, after := _, guard := none }) rfl (fun KK hKK => ?_) AllReadyH.nil)
              go_simp
              have HG : Hid (Blk w3.heap.size #[.string ⟨#[]⟩, .int .i64 0, .int .i64 0, .int .i64 0, .int .i64 0, .bool false, .string ⟨#[]⟩] 70 (w3.alloc (Obj.cells #[.string ⟨#[]⟩, .int .i64 0, .int .i64 0, .int .i64 0, .int .i64 0, .bool false, .string ⟨#[]⟩] 70))) := Blk.alloc _ _ _
              have hB4 : Below wr.heap.size wr (w3.alloc (Obj.cells #[.string ⟨#[]⟩, .int .i64 0, .int .i64 0, .int .i64 0, .int .i64 0, .bool false, .string ⟨#[]⟩] 70)) := hB3.alloc hB3.size _
              have hsw : wr.heap.size ≤ w3.heap.size := hB3.size
              refine hKK.out _ _ (HSB.out _ hB4) (fun hS => ?_)
              clear hKK KK hB3
              generalize w3.alloc (Obj.cells #[.string ⟨#[]⟩, .int .i64 0, .int .i64 0, .int .i64 0, .int .i64 0, .bool false, .string ⟨#[]⟩] 70) = w4 at *
              generalize w3.heap.size = gk at *
              refine wpAnyH_ready (rs := [9]) (by kernel_rfl) (by simp) (AllReadyH.cons (o := { dst := none, op := _, type := _, pos := _, after := _, guard := none }) rfl (fun KK hKK => ?_) AllReadyH.nil)
              rw [if_pos (by rfl)]
              refine wp_store_mid 70 (.tmp 10) (.tmp 88) (by rfl) gk 0 #[.string c.service, .int .i64 c.number, .int .i64 c.version, .int .i64 c.image, .int .i64 c.state, .bool c.ending, .string c.berth] (by rfl) (by rfl) HG.out.there isz_Scp (by simp [Value.oneCell']) ?_
              have HG5 : Hid (Blk gk #[.string c.service, .int .i64 c.number, .int .i64 c.version, .int .i64 c.image, .int .i64 c.state, .bool c.ending, .string c.berth] 70 (w4.setCells gk 0 [.string c.service, .int .i64 c.number, .int .i64 c.version, .int .i64 c.image, .int .i64 c.state, .bool c.ending, .string c.berth])) := HG.out.setAll #[.string c.service, .int .i64 c.number, .int .i64 c.version, .int .i64 c.image, .int .i64 c.state, .bool c.ending, .string c.berth] rfl
              have hB5 : Below wr.heap.size wr (w4.setCells gk 0 [.string c.service, .int .i64 c.number, .int .i64 c.version, .int .i64 c.image, .int .i64 c.state, .bool c.ending, .string c.berth]) := below_setCells hsw _ _ _ hB4
              refine hKK.out _ _ (HSB.out _ hB5) (fun hS => ?_)
              clear hKK KK hS
              refine wpAnyH_done (by kernel_rfl) ?_ _
              go_wp2_with fail
              go_meet
              exact ⟨gk, rfl, hsw, HG5, hB5⟩
            case rest =>
              obtain ⟨gk, rfl, hgk0, HG, hbx⟩ := hcut
              have hgk : gk ≠ go := by have := HOj.out.lt; omega
              generalize wc = w3 at *
              have HB3 := Hid.intro (HBj.out.below hbx HBj.out.lt)
              have HO3 := Hid.intro (HOj.out.below hbx HOj.out.lt)
              have HS3 := Hid.intro (HSj.out.below hbx HSj.out.lt)
              have HP3l := Hid.intro (HPj.out.below IntC.holds hbx (Nat.le_refl _))
              have hB3 := hBj.trans (hbx.mono hBj.size)
              skip
              clear HBj HOj HSj HPj hBj hbx HC1 HRC
              go_upto_region 22 with fail
              have kc0 : w3.cell? ⟨gk, 0, none⟩ = some (.string c.service) := HG.out.cell rfl
              have kc1 : w3.cell? ⟨gk, 1, none⟩ = some (.int .i64 c.number) := HG.out.cell rfl
              have kc2 : w3.cell? ⟨gk, 2, none⟩ = some (.int .i64 c.version) := HG.out.cell rfl
              have kc3 : w3.cell? ⟨gk, 3, none⟩ = some (.int .i64 c.image) := HG.out.cell rfl
              have kc4 : w3.cell? ⟨gk, 4, none⟩ = some (.int .i64 c.state) := HG.out.cell rfl
              have kc5 : w3.cell? ⟨gk, 5, none⟩ = some (.bool c.ending) := HG.out.cell rfl
              have kc6 : w3.cell? ⟨gk, 6, none⟩ = some (.string c.berth) := HG.out.cell rfl
              have kb0 : w3.cell? ⟨w.heap.size, 0, none⟩ = some (.int .i64 x.now) := HB3.out.cell rfl
              have kb1 : w3.cell? ⟨w.heap.size, 1, none⟩ = some (.slice (some ⟨b1, o1, none⟩) x.services.length c1) := HB3.out.cell rfl
              have kb2 : w3.cell? ⟨w.heap.size, 2, none⟩ = some (.slice (some ⟨b2, o2, none⟩) x.copies.length c2) := HB3.out.cell rfl
              have kb3 : w3.cell? ⟨w.heap.size, 3, none⟩ = some (.slice a3 x.berths.length c3) := HB3.out.cell rfl
              have ks3 : w3.cell? ⟨gs, 3, none⟩ = some (.int .i64 y.image) := HS3.out.cell rfl
              go_cut [98] (fun p wz => p = .bool (p3 x y i) ∧ Below w3.heap.size w3 wz)
              case first =>
                cases hq : (c.image != y.image) with
                | true =>
                  go_wp2_with fail
                  go_meet
                  exact ⟨by rw [HP3.out, hq]; rfl, Below.refl _ _⟩
                | false =>
                  go_wp2_with fail
                  refine (drains_any x _ c1 _ c2 a3 c3 lo c _ (HN3.out.below SbtC.holds hB3 (Nat.le_refl _)) (by have := HSV.out.l3; omega)).mono ?_
                  rintro e w4 ⟨rfl, hb4⟩
                  go_wp2_with fail
                  go_meet
                  exact ⟨by rw [HP3.out, hq]; rfl, hb4⟩
              case rest =>
                obtain ⟨rfl, hbx⟩ := hcut
                generalize wc = w4 at *
                have HB4 := Hid.intro (HB3.out.below hbx HB3.out.lt)
                have HO4 := Hid.intro (HO3.out.below hbx HO3.out.lt)
                have HS4 := Hid.intro (HS3.out.below hbx HS3.out.lt)
                have HG4 := Hid.intro (HG.out.below hbx HG.out.lt)
                have HP4l := Hid.intro (HP3l.out.below IntC.holds hbx (Nat.le_refl _))
                have hB4 := hB3.trans (hbx.mono hB3.size)
                clear HB3 HO3 HS3 HG HP3l hB3 hbx kc0 kc1 kc2 kc3 kc4 kc5 kc6 kb0 kb1 kb2 kb3 ks3
                have hrd : 0 ≤ r.d ∧ r.d ≤ 2000 ∧ 0 ≤ r.e ∧ r.e ≤ 2000 := by omega
                cases hp3 : p3 x y i with
                | true =>
                  have e3 : Hid (r.d + A3 + 1 = r.d + (((l.take (j + 1)).filter (p3 x y)).length : Int)) := by show _ = _; rw [HF3.out, hp3]; simp; omega
                  clear hp3 HF3
                  have kz : w4.cell? ⟨go, 3, none⟩ = some (.int .i64 (r.d + A3)) := HO4.out.cell rfl
                  have fz := HO4.out.frozen 3
                  have HWZ : IntKind.i64.wrap (r.d + A3 + 1) = r.d + A3 + 1 := by rw [IntKind.wrap_i64]; omega
                  have HO5 := Hid.intro (HO4.out.set 3 (.int .i64 (r.d + A3 + 1)))
                  have HB5 := Hid.intro (HB4.out.other (a := ⟨go, 3, none⟩) (by show _ ≠ go; omega) (.int .i64 (r.d + A3 + 1)))
                  have HS5 := Hid.intro (HS4.out.other (a := ⟨go, 3, none⟩) (by show _ ≠ go; omega) (.int .i64 (r.d + A3 + 1)))
                  have HG5 := Hid.intro (HG4.out.other (a := ⟨go, 3, none⟩) (by show _ ≠ go; omega) (.int .i64 (r.d + A3 + 1)))
                  have HP5l := Hid.intro (HP4l.out.keep IntC.holds (Keeps.set (show (⟨go, 3, none⟩ : Addr).block < w9.heap.size from hgo9) (.int .i64 (r.d + A3 + 1))) (Nat.le_refl _))
                  have hB5 : Below w.heap.size w (w4.setCell ⟨go, 3, none⟩ (.int .i64 (r.d + A3 + 1))) := hB4.setCell (by show w.heap.size ≤ go; omega) _
                  go_upto_region 24 with fail
                  clear kz fz HO4 HB4 HS4 HG4 HP4l hB4
                  generalize w4.setCell ⟨go, 3, none⟩ (.int .i64 (r.d + A3 + 1)) = w5 at *
                  have kst : w5.cell? ⟨gk, 4, none⟩ = some (.int .i64 c.state) := HG5.out.cell rfl
                  cases hp4 : (c.state != 3) with
                  | true =>
                    have e4 : Hid (r.e + A4 + 1 = r.e + (((l.take (j + 1)).filter (p4 x)).length : Int)) := by show _ = _; rw [HF4.out, HP4.out, hp4]; simp; omega
                    have kz : w5.cell? ⟨go, 4, none⟩ = some (.int .i64 (r.e + A4)) := HO5.out.cell rfl
                    have fz := HO5.out.frozen 4
                    have HWZ : IntKind.i64.wrap (r.e + A4 + 1) = r.e + A4 + 1 := by rw [IntKind.wrap_i64]; omega
                    have HO6 := Hid.intro (HO5.out.set 4 (.int .i64 (r.e + A4 + 1)))
                    have HB6 := Hid.intro (HB5.out.other (a := ⟨go, 4, none⟩) (by show _ ≠ go; omega) (.int .i64 (r.e + A4 + 1)))
                    have HS6 := Hid.intro (HS5.out.other (a := ⟨go, 4, none⟩) (by show _ ≠ go; omega) (.int .i64 (r.e + A4 + 1)))
                    have HG6 := Hid.intro (HG5.out.other (a := ⟨go, 4, none⟩) (by show _ ≠ go; omega) (.int .i64 (r.e + A4 + 1)))
                    have HP6l := Hid.intro (HP5l.out.keep IntC.holds (Keeps.set (show (⟨go, 4, none⟩ : Addr).block < w9.heap.size from hgo9) (.int .i64 (r.e + A4 + 1))) (Nat.le_refl _))
                    have hB6 : Below w.heap.size w (w5.setCell ⟨go, 4, none⟩ (.int .i64 (r.e + A4 + 1))) := hB5.setCell (by show w.heap.size ≤ go; omega) _
                    go_upto_region 20 with fail
                    clear kz fz HO5 HB5 HS5 HG5 HP5l hB5
                    generalize w5.setCell ⟨go, 4, none⟩ (.int .i64 (r.e + A4 + 1)) = w6 at *
                    clear kst hp4 HF4
                    go_wp2_with fail
                    go_roundw
                    case rel => exact ⟨j + 1, by omega, by go_num, HB6, by show Blk _ _ _ _; rw [← e3.out, ← e4.out]; exact HO6.out, HS6, HP6l, hB6⟩
                    case measure => simp [intOf]; omega
                  | false =>
                    have e4 : Hid (r.e + A4 = r.e + (((l.take (j + 1)).filter (p4 x)).length : Int)) := by show _ = _; rw [HF4.out, HP4.out, hp4]; simp
                    go_wp2_with fail
                    go_roundw
                    case rel => exact ⟨j + 1, by omega, by go_num, HB5, by show Blk _ _ _ _; rw [← e3.out, ← e4.out]; exact HO5.out, HS5, HP5l, hB5⟩
                    case measure => simp [intOf]; omega
                | false =>
                  have e3 : Hid (r.d + A3 = r.d + (((l.take (j + 1)).filter (p3 x y)).length : Int)) := by show _ = _; rw [HF3.out, hp3]; simp
                  clear hp3 HF3
                  go_upto_region 24 with fail
                  have kst : w4.cell? ⟨gk, 4, none⟩ = some (.int .i64 c.state) := HG4.out.cell rfl
                  cases hp4 : (c.state != 3) with
                  | true =>
                    have e4 : Hid (r.e + A4 + 1 = r.e + (((l.take (j + 1)).filter (p4 x)).length : Int)) := by show _ = _; rw [HF4.out, HP4.out, hp4]; simp; omega
                    have kz : w4.cell? ⟨go, 4, none⟩ = some (.int .i64 (r.e + A4)) := HO4.out.cell rfl
                    have fz := HO4.out.frozen 4
                    have HWZ : IntKind.i64.wrap (r.e + A4 + 1) = r.e + A4 + 1 := by rw [IntKind.wrap_i64]; omega
                    have HO6 := Hid.intro (HO4.out.set 4 (.int .i64 (r.e + A4 + 1)))
                    have HB6 := Hid.intro (HB4.out.other (a := ⟨go, 4, none⟩) (by show _ ≠ go; omega) (.int .i64 (r.e + A4 + 1)))
                    have HS6 := Hid.intro (HS4.out.other (a := ⟨go, 4, none⟩) (by show _ ≠ go; omega) (.int .i64 (r.e + A4 + 1)))
                    have HG6 := Hid.intro (HG4.out.other (a := ⟨go, 4, none⟩) (by show _ ≠ go; omega) (.int .i64 (r.e + A4 + 1)))
                    have HP6l := Hid.intro (HP4l.out.keep IntC.holds (Keeps.set (show (⟨go, 4, none⟩ : Addr).block < w9.heap.size from hgo9) (.int .i64 (r.e + A4 + 1))) (Nat.le_refl _))
                    have hB6 : Below w.heap.size w (w4.setCell ⟨go, 4, none⟩ (.int .i64 (r.e + A4 + 1))) := hB4.setCell (by show w.heap.size ≤ go; omega) _
                    go_upto_region 20 with fail
                    clear kz fz HO4 HB4 HS4 HG4 HP4l hB4
                    generalize w4.setCell ⟨go, 4, none⟩ (.int .i64 (r.e + A4 + 1)) = w6 at *
                    clear kst hp4 HF4
                    go_wp2_with fail
                    go_roundw
                    case rel => exact ⟨j + 1, by omega, by go_num, HB6, by show Blk _ _ _ _; rw [← e3.out, ← e4.out]; exact HO6.out, HS6, HP6l, hB6⟩
                    case measure => simp [intOf]; omega
                  | false =>
                    have e4 : Hid (r.e + A4 = r.e + (((l.take (j + 1)).filter (p4 x)).length : Int)) := by show _ = _; rw [HF4.out, HP4.out, hp4]; simp
                    go_wp2_with fail
                    go_roundw
                    case rel => exact ⟨j + 1, by omega, by go_num, HB4, by show Blk _ _ _ _; rw [← e3.out, ← e4.out]; exact HO4.out, HS4, HP4l, hB4⟩
                    case measure => simp [intOf]; omega
        case neg =>
          have hd' : 0 ≤ Dd := by omega
          have HWC : IntKind.i64.wrap (r.c + Dd) = r.c + Ab := by rw [hAb, IntKind.wrap_i64]; unfold absI; rw [if_neg hd]; omega
          clear hAb
          go_upto_region 17 with fail
          clear kc fc HO8 HB8 HS8 HT8 hB8 k_gone k_live k_want
          generalize w8.setCell ⟨go, 2, none⟩ (.int .i64 (r.c + Ab)) = w9 at *
          have k_name : w9.cell? ⟨gs, 0, none⟩ = some (.string y.name) := HS9.out.cell rfl
          go_wp2_with (refine wpList_load_mid rfl 33 _ rfl w.heap.size 0 rfl [.int .i64 x.now, .slice (some ⟨b1, o1, none⟩) x.services.length c1, .slice a2 x.copies.length c2, .slice a3 x.berths.length c3] _ HB9.out.rangeA Tryz.underlying33 rfl isz_Sbk ?_)
          refine (live22_any x _ c1 a2 c2 a3 c3 lo y.name _ (HN2.out.below ScpC.holds hB9 (Nat.le_refl _)) (by omega)).mono ?_
          rintro e wA ⟨gl, ql, rfl, hpl, hb⟩
          have HBA := Hid.intro (HB9.out.below hb HB9.out.lt)
          have HOA := Hid.intro (HO9.out.below hb HO9.out.lt)
          have HSA := Hid.intro (HS9.out.below hb HS9.out.lt)
          have hBA := hB9.trans (hb.mono hB9.size)
          have hgo9 : go < w9.heap.size := HO9.out.lt
          have HPA := Hid.intro hpl
          have hll := live200 hl2 y.name
          have HIN : Hid (∀ i ∈ liveL x y.name, i < x.copies.length) := fun i hi => plTo_lt hi
          clear hb hpl HB9 HO9 HS9 hB9 k_name
          obtain ⟨l, hl⟩ : ∃ l, l = liveL x y.name := ⟨_, rfl⟩
          rw [← hl] at HPA hll HIN HRS ⊢
          clear hl
          go_wp2_with fail
          go_loopw [9] (fun q wr => ∃ j : Nat, j ≤ l.length ∧ q = .int .i64 j ∧ Hid (Blk w.heap.size #[.int .i64 x.now, .slice (some ⟨b1, o1, none⟩) x.services.length c1, .slice a2 x.copies.length c2, .slice a3 x.berths.length c3] 33 wr) ∧ Hid (Blk go #[.int .i64 r.a, .int .i64 (r.b + T.ending), .int .i64 (r.c + Ab), .int .i64 (r.d + (((l.take j).filter (p3 x y)).length : Int)), .int .i64 (r.e + (((l.take j).filter (p4 x)).length : Int))] 3 wr) ∧ Hid (Blk gs #[.string y.name, .int .i64 y.version, .bool y.gone, .int .i64 y.image, .int .i64 y.want, .int .i64 y.down, .int .i64 y.over, .int .i64 y.next, .int .i64 y.per, .int .i64 y.least, .int .i64 y.most, .int .i64 y.load, .int .i64 y.cool] 46 wr) ∧ Hid (Pls w9.heap.size wr (some ⟨gl, 0, none⟩) l) ∧ Below w.heap.size w wr) (fun q _ => l.length - (intOf q).toNat)
          case atStart => exact ⟨0, Nat.zero_le _, rfl, HBA, by simpa using HOA, HSA, HPA, hBA⟩
          case round =>
            clear HBA HOA HSA HPA hBA
            rename_i wr
            obtain ⟨j, hj, rfl, HBj, HOj, HSj, HPj, hBj⟩ := hrel
            by_cases hlj : j < l.length
            case neg =>
              have hje : j = l.length := by omega
              subst hje
              rw [List.take_length] at HOj
              go_wp2_with fail
              go_roundw
              case rel => exact ⟨k + 1, _, by omega, by go_num, by show _ = _; rw [HNX.out, HRS.out], by show RkB _ _; rw [← HRS.out, show (210 * ((k + 1 : Nat) : Int)) = 210 * (k : Int) + 210 by omega]; exact HNB.out, HBj, HOj, hBj⟩
              case measure => simp [intOf]; omega
            obtain ⟨i, hki⟩ : ∃ i, l[j]? = some i := ⟨l[j], List.getElem?_eq_getElem hlj⟩
            have hil : i < x.copies.length := HIN.out i (List.mem_of_getElem? hki)
            obtain ⟨c, hc⟩ : ∃ c, x.copies[i]? = some c := ⟨x.copies[i], List.getElem?_eq_getElem hil⟩
            obtain ⟨b4, o4, ea, hbl, hcl⟩ := pls_at1 HPj.out hki
            cases ea
            obtain ⟨b2, o2, rfl, _, hb2, hcc⟩ := HN2.out.at hc
            have HRC := Hid.intro (rngScp hcc)
            have HC1 : Hid (wr.cell? ⟨gl, j, none⟩ = some (.int .i64 i)) := by show _ = _; simpa using hcl
            have HF3 := Hid.intro (filt1 (p := p3 x y) hki)
            have HF4 := Hid.intro (filt1 (p := p4 x) hki)
            have HP3 : Hid (p3 x y i = ((c.image != y.image) || drB x c)) := by show _ = _; unfold p3; rw [cAt_at hc]
            have HP4 : Hid (p4 x i = (c.state != 3)) := by show _ = _; unfold p4; rw [cAt_at hc]
            have hf3 := filt_len1 (p3 x y) l j
            have hf4 := filt_len1 (p4 x) l j
            clear hcc hc hki hcl
            obtain ⟨A3, h3⟩ : ∃ n : Int, n = (((l.take j).filter (p3 x y)).length : Int) := ⟨_, rfl⟩
            obtain ⟨A4, h4⟩ : ∃ n : Int, n = (((l.take j).filter (p4 x)).length : Int) := ⟨_, rfl⟩
            rw [← h3] at HOj HF3
            rw [← h4] at HOj HF4
            have ha34 : 0 ≤ A3 ∧ A3 ≤ 200 ∧ 0 ≤ A4 ∧ A4 ≤ 200 := by omega
            clear h3 h4
            go_upto_region 21 with fail
            go_cut [10] (fun p wz => ∃ gk : Nat, p = .pointer (some ⟨gk, 0, none⟩) ∧ wr.heap.size ≤ gk ∧ Hid (Blk gk #[.string c.service, .int .i64 c.number, .int .i64 c.version, .int .i64 c.image, .int .i64 c.state, .bool c.ending, .string c.berth] 70 wz) ∧ Below wr.heap.size wr wz)
            case first =>
              have HSB : Hid (∀ wz, Below wr.heap.size wr wz → (fun wy => Blk w.heap.size #[.int .i64 x.now, .slice (some ⟨b1, o1, none⟩) x.services.length c1, .slice (some ⟨b2, o2, none⟩) x.copies.length c2, .slice a3 x.berths.length c3] 33 wy ∧ wy.cell? ⟨gl, j, none⟩ = some (.int .i64 i) ∧ wy.rangeAt b2 (o2 + i * 7) [.string c.service, .int .i64 c.number, .int .i64 c.version, .int .i64 c.image, .int .i64 c.state, .bool c.ending, .string c.berth]) wz) := fun wz hb => ⟨HBj.out.below hb HBj.out.lt, (hb.cell (p := ⟨gl, j, none⟩) hbl).trans HC1.out, rngB HRC.out (hBj.trans (hb.mono hBj.size)) hb2⟩
              refine wp_region_held_drew (S := fun wy => Blk w.heap.size #[.int .i64 x.now, .slice (some ⟨b1, o1, none⟩) x.services.length c1, .slice (some ⟨b2, o2, none⟩) x.copies.length c2, .slice a3 x.berths.length c3] 33 wy ∧ wy.cell? ⟨gl, j, none⟩ = some (.int .i64 i) ∧ wy.rangeAt b2 (o2 + i * 7) [.string c.service, .int .i64 c.number, .int .i64 c.version, .int .i64 c.image, .int .i64 c.state, .bool c.ending, .string c.berth]) (by kernel_rfl) (HSB.out _ (Below.refl _ _).drew) (fun hS => ?_)
              have hB3 : Below wr.heap.size wr wr.drew := (Below.refl _ _).drew
              obtain ⟨w3, HW3⟩ : ∃ w3, Hid (w3 = wr.drew) := ⟨_, rfl⟩
              rw [← HW3.out] at hS hB3 ⊢
              clear HW3
              refine wpAnyH_take (i := 0) (oi := { dst := some 81, op := _, type := _, pos := _, after := _, guard := none }) (v := .pointer (some ⟨w.heap.size, 2, none⟩)) rfl (by kernel_rfl) (by kernel_rfl) (by kernel_rfl) (fun _ _ _ h => h) (Or.inl ⟨by rfl, ?_⟩) hS ?_
              · intro wy hy
                clear hy
                go_simp
              simp only [Act.put, List.setIfInBounds_toArray, List.set_cons_zero, List.set_cons_succ]
              refine wpAnyH_take (i := 1) (oi := { dst := some 82, op := _, type := _, pos := _, after := _, guard := none }) (v := .slice (some ⟨b2, o2, none⟩) x.copies.length c2) rfl (by kernel_rfl) (by kernel_rfl) (by kernel_rfl) (fun _ _ _ h => h) (Or.inl ⟨by rfl, ?_⟩) hS ?_
              · intro wy hy
                have h0 := hy.1.cell (o := 2) rfl
                clear hy
                go_simp
              simp only [Act.put, List.setIfInBounds_toArray, List.set_cons_zero, List.set_cons_succ]
              refine wpAnyH_take (i := 2) (oi := { dst := some 83, op := _, type := _, pos := _, after := _, guard := none }) (v := .slice (some ⟨gl, 0, none⟩) l.length ql) rfl (by kernel_rfl) (by kernel_rfl) (by kernel_rfl) (fun _ _ _ h => h) (Or.inl ⟨by rfl, ?_⟩) hS ?_
              · intro wy hy
                clear hy
                go_simp
              simp only [Act.put, List.setIfInBounds_toArray, List.set_cons_zero, List.set_cons_succ]
              refine wpAnyH_take (i := 3) (oi := { dst := some 84, op := _, type := _, pos := _, after := _, guard := none }) (v := .int .i64 j) rfl (by kernel_rfl) (by kernel_rfl) (by kernel_rfl) (fun _ _ _ h => h) (Or.inl ⟨by rfl, ?_⟩) hS ?_
              · intro wy hy
                clear hy
                go_simp
              simp only [Act.put, List.setIfInBounds_toArray, List.set_cons_zero, List.set_cons_succ]
              refine wpAnyH_take (i := 4) (oi := { dst := some 85, op := _, type := _, pos := _, after := _, guard := none }) (v := .pointer (some ⟨gl, j, none⟩)) rfl (by kernel_rfl) (by kernel_rfl) (by kernel_rfl) (fun _ _ _ h => h) (Or.inl ⟨by rfl, ?_⟩) hS ?_
              · intro wy hy
                clear hy
                first | (go_simp; done) | (go_simp; omega) | (go_simp; intro hh; omega)
              simp only [Act.put, List.setIfInBounds_toArray, List.set_cons_zero, List.set_cons_succ]
              refine wpAnyH_take (i := 5) (oi := { dst := some 86, op := _, type := _, pos := _, after := _, guard := none }) (v := .int .i64 i) rfl (by kernel_rfl) (by kernel_rfl) (by kernel_rfl) (fun _ _ _ h => h) (Or.inl ⟨by rfl, ?_⟩) hS ?_
              · intro wy hy
                have h0 := hy.2.1
                clear hy
                go_simp
              simp only [Act.put, List.setIfInBounds_toArray, List.set_cons_zero, List.set_cons_succ]
              refine wpAnyH_take (i := 6) (oi := { dst := some 87, op := _, type := _, pos := _, after := _, guard := none }) (v := .pointer (some ⟨b2, o2 + i * 7, none⟩)) rfl (by kernel_rfl) (by kernel_rfl) (by kernel_rfl) (fun _ _ _ h => h) (Or.inl ⟨by rfl, ?_⟩) hS ?_
              · intro wy hy
                clear hy
                first | (go_simp; done) | (go_simp; omega) | (go_simp; intro hh; omega)
              simp only [Act.put, List.setIfInBounds_toArray, List.set_cons_zero, List.set_cons_succ]
              refine wpAnyH_take (i := 7) (oi := { dst := some 88, op := _, type := _, pos := _, after := _, guard := none }) (v := .agg #[.string c.service, .int .i64 c.number, .int .i64 c.version, .int .i64 c.image, .int .i64 c.state, .bool c.ending, .string c.berth]) rfl (by kernel_rfl) (by kernel_rfl) (by kernel_rfl) (fun _ _ _ h => h) (yieldsIf_load_mid (by rfl) _ _ rfl b2 (o2 + i * 7) rfl [.string c.service, .int .i64 c.number, .int .i64 c.version, .int .i64 c.image, .int .i64 c.state, .bool c.ending, .string c.berth] _ (fun _ h => h.2.2) Tryz.underlying70 rfl isz_Scp) hS ?_
              simp only [Act.put, List.setIfInBounds_toArray, List.set_cons_zero, List.set_cons_succ]
              refine wpAnyH_ready (rs := [8]) (by kernel_rfl) (by simp) (AllReadyH.cons (o := { dst := some 10, op := _, type := _, pos := _, after := _, guard := none }) rfl (fun KK hKK => ?_) AllReadyH.nil)
              go_simp
              have HG : Hid (Blk w3.heap.size #[.string ⟨#[]⟩, .int .i64 0, .int .i64 0, .int .i64 0, .int .i64 0, .bool false, .string ⟨#[]⟩] 70 (w3.alloc (Obj.cells #[.string ⟨#[]⟩, .int .i64 0, .int .i64 0, .int .i64 0, .int .i64 0, .bool false, .string ⟨#[]⟩] 70))) := Blk.alloc _ _ _
              have hB4 : Below wr.heap.size wr (w3.alloc (Obj.cells #[.string ⟨#[]⟩, .int .i64 0, .int .i64 0, .int .i64 0, .int .i64 0, .bool false, .string ⟨#[]⟩] 70)) := hB3.alloc hB3.size _
              have hsw : wr.heap.size ≤ w3.heap.size := hB3.size
              refine hKK.out _ _ (HSB.out _ hB4) (fun hS => ?_)
              clear hKK KK hB3
              generalize w3.alloc (Obj.cells #[.string ⟨#[]⟩, .int .i64 0, .int .i64 0, .int .i64 0, .int .i64 0, .bool false, .string ⟨#[]⟩] 70) = w4 at *
              generalize w3.heap.size = gk at *
              refine wpAnyH_ready (rs := [9]) (by kernel_rfl) (by simp) (AllReadyH.cons (o := { dst := none, op := _, type := _, pos := _, after := _, guard := none }) rfl (fun KK hKK => ?_) AllReadyH.nil)
              rw [if_pos (by rfl)]
              refine wp_store_mid 70 (.tmp 10) (.tmp 88) (by rfl) gk 0 #[.string c.service, .int .i64 c.number, .int .i64 c.version, .int .i64 c.image, .int .i64 c.state, .bool c.ending, .string c.berth] (by rfl) (by rfl) HG.out.there isz_Scp (by simp [Value.oneCell']) ?_
              have HG5 : Hid (Blk gk #[.string c.service, .int .i64 c.number, .int .i64 c.version, .int .i64 c.image, .int .i64 c.state, .bool c.ending, .string c.berth] 70 (w4.setCells gk 0 [.string c.service, .int .i64 c.number, .int .i64 c.version, .int .i64 c.image, .int .i64 c.state, .bool c.ending, .string c.berth])) := HG.out.setAll #[.string c.service, .int .i64 c.number, .int .i64 c.version, .int .i64 c.image, .int .i64 c.state, .bool c.ending, .string c.berth] rfl
              have hB5 : Below wr.heap.size wr (w4.setCells gk 0 [.string c.service, .int .i64 c.number, .int .i64 c.version, .int .i64 c.image, .int .i64 c.state, .bool c.ending, .string c.berth]) := below_setCells hsw _ _ _ hB4
              refine hKK.out _ _ (HSB.out _ hB5) (fun hS => ?_)
              clear hKK KK hS
              refine wpAnyH_done (by kernel_rfl) ?_ _
              go_wp2_with fail
              go_meet
              exact ⟨gk, rfl, hsw, HG5, hB5⟩
            case rest =>
              obtain ⟨gk, rfl, hgk0, HG, hbx⟩ := hcut
              have hgk : gk ≠ go := by have := HOj.out.lt; omega
              generalize wc = w3 at *
              have HB3 := Hid.intro (HBj.out.below hbx HBj.out.lt)
              have HO3 := Hid.intro (HOj.out.below hbx HOj.out.lt)
              have HS3 := Hid.intro (HSj.out.below hbx HSj.out.lt)
              have HP3l := Hid.intro (HPj.out.below IntC.holds hbx (Nat.le_refl _))
              have hB3 := hBj.trans (hbx.mono hBj.size)
              skip
              clear HBj HOj HSj HPj hBj hbx HC1 HRC
              go_upto_region 22 with fail
              have kc0 : w3.cell? ⟨gk, 0, none⟩ = some (.string c.service) := HG.out.cell rfl
              have kc1 : w3.cell? ⟨gk, 1, none⟩ = some (.int .i64 c.number) := HG.out.cell rfl
              have kc2 : w3.cell? ⟨gk, 2, none⟩ = some (.int .i64 c.version) := HG.out.cell rfl
              have kc3 : w3.cell? ⟨gk, 3, none⟩ = some (.int .i64 c.image) := HG.out.cell rfl
              have kc4 : w3.cell? ⟨gk, 4, none⟩ = some (.int .i64 c.state) := HG.out.cell rfl
              have kc5 : w3.cell? ⟨gk, 5, none⟩ = some (.bool c.ending) := HG.out.cell rfl
              have kc6 : w3.cell? ⟨gk, 6, none⟩ = some (.string c.berth) := HG.out.cell rfl
              have kb0 : w3.cell? ⟨w.heap.size, 0, none⟩ = some (.int .i64 x.now) := HB3.out.cell rfl
              have kb1 : w3.cell? ⟨w.heap.size, 1, none⟩ = some (.slice (some ⟨b1, o1, none⟩) x.services.length c1) := HB3.out.cell rfl
              have kb2 : w3.cell? ⟨w.heap.size, 2, none⟩ = some (.slice (some ⟨b2, o2, none⟩) x.copies.length c2) := HB3.out.cell rfl
              have kb3 : w3.cell? ⟨w.heap.size, 3, none⟩ = some (.slice a3 x.berths.length c3) := HB3.out.cell rfl
              have ks3 : w3.cell? ⟨gs, 3, none⟩ = some (.int .i64 y.image) := HS3.out.cell rfl
              go_cut [98] (fun p wz => p = .bool (p3 x y i) ∧ Below w3.heap.size w3 wz)
              case first =>
                cases hq : (c.image != y.image) with
                | true =>
                  go_wp2_with fail
                  go_meet
                  exact ⟨by rw [HP3.out, hq]; rfl, Below.refl _ _⟩
                | false =>
                  go_wp2_with fail
                  refine (drains_any x _ c1 _ c2 a3 c3 lo c _ (HN3.out.below SbtC.holds hB3 (Nat.le_refl _)) (by have := HSV.out.l3; omega)).mono ?_
                  rintro e w4 ⟨rfl, hb4⟩
                  go_wp2_with fail
                  go_meet
                  exact ⟨by rw [HP3.out, hq]; rfl, hb4⟩
              case rest =>
                obtain ⟨rfl, hbx⟩ := hcut
                generalize wc = w4 at *
                have HB4 := Hid.intro (HB3.out.below hbx HB3.out.lt)
                have HO4 := Hid.intro (HO3.out.below hbx HO3.out.lt)
                have HS4 := Hid.intro (HS3.out.below hbx HS3.out.lt)
                have HG4 := Hid.intro (HG.out.below hbx HG.out.lt)
                have HP4l := Hid.intro (HP3l.out.below IntC.holds hbx (Nat.le_refl _))
                have hB4 := hB3.trans (hbx.mono hB3.size)
                clear HB3 HO3 HS3 HG HP3l hB3 hbx kc0 kc1 kc2 kc3 kc4 kc5 kc6 kb0 kb1 kb2 kb3 ks3
                have hrd : 0 ≤ r.d ∧ r.d ≤ 2000 ∧ 0 ≤ r.e ∧ r.e ≤ 2000 := by omega
                cases hp3 : p3 x y i with
                | true =>
                  have e3 : Hid (r.d + A3 + 1 = r.d + (((l.take (j + 1)).filter (p3 x y)).length : Int)) := by show _ = _; rw [HF3.out, hp3]; simp; omega
                  clear hp3 HF3
                  have kz : w4.cell? ⟨go, 3, none⟩ = some (.int .i64 (r.d + A3)) := HO4.out.cell rfl
                  have fz := HO4.out.frozen 3
                  have HWZ : IntKind.i64.wrap (r.d + A3 + 1) = r.d + A3 + 1 := by rw [IntKind.wrap_i64]; omega
                  have HO5 := Hid.intro (HO4.out.set 3 (.int .i64 (r.d + A3 + 1)))
                  have HB5 := Hid.intro (HB4.out.other (a := ⟨go, 3, none⟩) (by show _ ≠ go; omega) (.int .i64 (r.d + A3 + 1)))
                  have HS5 := Hid.intro (HS4.out.other (a := ⟨go, 3, none⟩) (by show _ ≠ go; omega) (.int .i64 (r.d + A3 + 1)))
                  have HG5 := Hid.intro (HG4.out.other (a := ⟨go, 3, none⟩) (by show _ ≠ go; omega) (.int .i64 (r.d + A3 + 1)))
                  have HP5l := Hid.intro (HP4l.out.keep IntC.holds (Keeps.set (show (⟨go, 3, none⟩ : Addr).block < w9.heap.size from hgo9) (.int .i64 (r.d + A3 + 1))) (Nat.le_refl _))
                  have hB5 : Below w.heap.size w (w4.setCell ⟨go, 3, none⟩ (.int .i64 (r.d + A3 + 1))) := hB4.setCell (by show w.heap.size ≤ go; omega) _
                  go_upto_region 24 with fail
                  clear kz fz HO4 HB4 HS4 HG4 HP4l hB4
                  generalize w4.setCell ⟨go, 3, none⟩ (.int .i64 (r.d + A3 + 1)) = w5 at *
                  have kst : w5.cell? ⟨gk, 4, none⟩ = some (.int .i64 c.state) := HG5.out.cell rfl
                  cases hp4 : (c.state != 3) with
                  | true =>
                    have e4 : Hid (r.e + A4 + 1 = r.e + (((l.take (j + 1)).filter (p4 x)).length : Int)) := by show _ = _; rw [HF4.out, HP4.out, hp4]; simp; omega
                    have kz : w5.cell? ⟨go, 4, none⟩ = some (.int .i64 (r.e + A4)) := HO5.out.cell rfl
                    have fz := HO5.out.frozen 4
                    have HWZ : IntKind.i64.wrap (r.e + A4 + 1) = r.e + A4 + 1 := by rw [IntKind.wrap_i64]; omega
                    have HO6 := Hid.intro (HO5.out.set 4 (.int .i64 (r.e + A4 + 1)))
                    have HB6 := Hid.intro (HB5.out.other (a := ⟨go, 4, none⟩) (by show _ ≠ go; omega) (.int .i64 (r.e + A4 + 1)))
                    have HS6 := Hid.intro (HS5.out.other (a := ⟨go, 4, none⟩) (by show _ ≠ go; omega) (.int .i64 (r.e + A4 + 1)))
                    have HG6 := Hid.intro (HG5.out.other (a := ⟨go, 4, none⟩) (by show _ ≠ go; omega) (.int .i64 (r.e + A4 + 1)))
                    have HP6l := Hid.intro (HP5l.out.keep IntC.holds (Keeps.set (show (⟨go, 4, none⟩ : Addr).block < w9.heap.size from hgo9) (.int .i64 (r.e + A4 + 1))) (Nat.le_refl _))
                    have hB6 : Below w.heap.size w (w5.setCell ⟨go, 4, none⟩ (.int .i64 (r.e + A4 + 1))) := hB5.setCell (by show w.heap.size ≤ go; omega) _
                    go_upto_region 20 with fail
                    clear kz fz HO5 HB5 HS5 HG5 HP5l hB5
                    generalize w5.setCell ⟨go, 4, none⟩ (.int .i64 (r.e + A4 + 1)) = w6 at *
                    clear kst hp4 HF4
                    go_wp2_with fail
                    go_roundw
                    case rel => exact ⟨j + 1, by omega, by go_num, HB6, by show Blk _ _ _ _; rw [← e3.out, ← e4.out]; exact HO6.out, HS6, HP6l, hB6⟩
                    case measure => simp [intOf]; omega
                  | false =>
                    have e4 : Hid (r.e + A4 = r.e + (((l.take (j + 1)).filter (p4 x)).length : Int)) := by show _ = _; rw [HF4.out, HP4.out, hp4]; simp
                    go_wp2_with fail
                    go_roundw
                    case rel => exact ⟨j + 1, by omega, by go_num, HB5, by show Blk _ _ _ _; rw [← e3.out, ← e4.out]; exact HO5.out, HS5, HP5l, hB5⟩
                    case measure => simp [intOf]; omega
                | false =>
                  have e3 : Hid (r.d + A3 = r.d + (((l.take (j + 1)).filter (p3 x y)).length : Int)) := by show _ = _; rw [HF3.out, hp3]; simp
                  clear hp3 HF3
                  go_upto_region 24 with fail
                  have kst : w4.cell? ⟨gk, 4, none⟩ = some (.int .i64 c.state) := HG4.out.cell rfl
                  cases hp4 : (c.state != 3) with
                  | true =>
                    have e4 : Hid (r.e + A4 + 1 = r.e + (((l.take (j + 1)).filter (p4 x)).length : Int)) := by show _ = _; rw [HF4.out, HP4.out, hp4]; simp; omega
                    have kz : w4.cell? ⟨go, 4, none⟩ = some (.int .i64 (r.e + A4)) := HO4.out.cell rfl
                    have fz := HO4.out.frozen 4
                    have HWZ : IntKind.i64.wrap (r.e + A4 + 1) = r.e + A4 + 1 := by rw [IntKind.wrap_i64]; omega
                    have HO6 := Hid.intro (HO4.out.set 4 (.int .i64 (r.e + A4 + 1)))
                    have HB6 := Hid.intro (HB4.out.other (a := ⟨go, 4, none⟩) (by show _ ≠ go; omega) (.int .i64 (r.e + A4 + 1)))
                    have HS6 := Hid.intro (HS4.out.other (a := ⟨go, 4, none⟩) (by show _ ≠ go; omega) (.int .i64 (r.e + A4 + 1)))
                    have HG6 := Hid.intro (HG4.out.other (a := ⟨go, 4, none⟩) (by show _ ≠ go; omega) (.int .i64 (r.e + A4 + 1)))
                    have HP6l := Hid.intro (HP4l.out.keep IntC.holds (Keeps.set (show (⟨go, 4, none⟩ : Addr).block < w9.heap.size from hgo9) (.int .i64 (r.e + A4 + 1))) (Nat.le_refl _))
                    have hB6 : Below w.heap.size w (w4.setCell ⟨go, 4, none⟩ (.int .i64 (r.e + A4 + 1))) := hB4.setCell (by show w.heap.size ≤ go; omega) _
                    go_upto_region 20 with fail
                    clear kz fz HO4 HB4 HS4 HG4 HP4l hB4
                    generalize w4.setCell ⟨go, 4, none⟩ (.int .i64 (r.e + A4 + 1)) = w6 at *
                    clear kst hp4 HF4
                    go_wp2_with fail
                    go_roundw
                    case rel => exact ⟨j + 1, by omega, by go_num, HB6, by show Blk _ _ _ _; rw [← e3.out, ← e4.out]; exact HO6.out, HS6, HP6l, hB6⟩
                    case measure => simp [intOf]; omega
                  | false =>
                    have e4 : Hid (r.e + A4 = r.e + (((l.take (j + 1)).filter (p4 x)).length : Int)) := by show _ = _; rw [HF4.out, HP4.out, hp4]; simp
                    go_wp2_with fail
                    go_roundw
                    case rel => exact ⟨j + 1, by omega, by go_num, HB4, by show Blk _ _ _ _; rw [← e3.out, ← e4.out]; exact HO4.out, HS4, HP4l, hB4⟩
                    case measure => simp [intOf]; omega

end Go.Proofs.YtfbmljdlkgiliaaGreat
