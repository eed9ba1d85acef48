import Derived.Test.YtnggdpjfmpjlhaaGreatTkw
import Derived.Test.YtnggdpjfmpjlhaaGreatSk1
import Derived.Test.YtnggdpjfmpjlhaaGreatJ13
namespace Go.Proofs.YtnggdpjfmpjlhaaGreat
open Go.RowKit

def enV (l : List Sen) : List Value := l.flatMap (fun e => [.int .i64 e.number, .int .i64 e.seen])
theorem enV_len : ∀ l : List Sen, (enV l).length = l.length * 2
 | [] => rfl
 | e :: r => by
  have := enV_len r
  unfold enV at *
  simp only [List.flatMap_cons, List.length_append, List.length_cons, List.length_nil, this]
  omega
theorem enV_snoc (l : List Sen) (e : Sen) : enV (l ++ [e]) = enV l ++ [.int .i64 e.number, .int .i64 e.seen] := by simp [enV]
theorem enV_at : ∀ (l : List Sen) (k : Nat) (e : Sen) (j : Nat), l[k]? = some e → j < 2 → (enV l)[k * 2 + j]? = ([.int .i64 e.number, .int .i64 e.seen] : List Value)[j]?
 | [], _, _, _, h, _ => by simp at h
 | y :: r, 0, e, j, h, hj => by
  simp at h
  subst h
  unfold enV
  rw [List.flatMap_cons, List.getElem?_append_left (by simp; omega)]
  simp
 | y :: r, k + 1, e, j, h, hj => by
  simp at h
  have h1 := enV_at r k e j h hj
  unfold enV at *
  rw [List.flatMap_cons, List.getElem?_append_right (by simp; omega)]
  rw [← h1]
  congr 1
  simp
  omega
theorem row_ens {w : World} {base g q : Nat} {l : List Sen} (h : w.ownsRow base 125 2 (.slice (some ⟨g, 0, none⟩) l.length q) l.length (enV l)) (hm : l.length ≤ maxLen) : SliceC SenC 2 base w (some ⟨g, 0, none⟩) l := by
 rcases h.2 with ⟨hv, _⟩ | ⟨g', cap, cur, hv, hb, hg, _⟩
 ·cases hv
 ·cases hv
  refine ⟨hm, .inr ⟨g, 0, rfl, ⟨hb, fun _ p => h.frozenAt p⟩, (Array.getElem?_eq_some_iff.1 hg).1, fun j x hj => ?_⟩⟩
  have hlt := lt_of_some hj
  have e0 := h.cellAt (j * 2 + 0) (by omega)
  have e1 := h.cellAt (j * 2 + 1) (by omega)
  rw [enV_at l j x 0 hj (by omega)] at e0
  rw [enV_at l j x 1 hj (by omega)] at e1
  exact ⟨by simpa using e0, by simpa using e1⟩

def EnRes (l : List Sen) (w : World) (e : Ending) (w' : World) : Prop := ∃ g q : Nat, e = .returned (.slice (some ⟨g, 0, none⟩) l.length q) ∧ SliceC SenC 2 w.heap.size w' (some ⟨g, 0, none⟩) l ∧ Below w.heap.size w w'

def enC (c : Scp) : Sen := ⟨c.number, c.version⟩

theorem pls_at {lo : Nat} {w : World} {a : Option Addr} {l : List Nat} {k i : Nat} (h : Pls lo w a l) (hk : l[k]? = some i) : ∃ b o, a = some ⟨b, o, none⟩ ∧ b < w.heap.size ∧ w.cell? ⟨b, o + k, none⟩ = some (.int .i64 i) := by
 have hk2 : (toI l)[k]? = some (i : Int) := by simp [toI, hk]
 obtain ⟨b, o, ea, _, hbl, hc⟩ := h.at hk2
 refine ⟨b, o, ea, hbl, ?_⟩
 have hc2 : w.cell? ⟨b, o + k * 1 + 0, none⟩ = some (.int .i64 (i : Int)) := hc
 simpa using hc2

theorem two_at {w : World} {g : Nat} {u v : Value} {t : TypeId} (h : Blk g #[u, v] t w) : ∀ j x, [u, v][j]? = some x → w.cell? ((⟨g, 0, none⟩ : Addr).add j) = some x := by
 intro j x hj
 rw [Addr.add_mid]
 exact h.rangeA j x hj

set_option maxHeartbeats 8000000 in
set_option maxRecDepth 100000 in
theorem ends_any (x : Sbk) (a1 : Option Addr) (c1 : Nat) (a2 : Option Addr) (c2 : Nat) (a3 : Option Addr) (c3 : Nat) (lo lp : Nat) (l : List Nat) (al : Option Addr) (cl : Nat) (w : World) (n2 : SliceC ScpC 7 lo w a2 x.copies) (hp : Pls lp w al l) (hin : ∀ i ∈ l, i < x.copies.length) (hl2 : l.length ≤ 1048576) :
  Calls Tryz.prog 43 #[.agg #[.int .i64 x.now, .slice a1 x.services.length c1, .slice a2 x.copies.length c2, .slice a3 x.berths.length c3], .slice al l.length cl] w fun e w' => EnRes (l.map (fun i => enC (cAt x i))) w e w' := by
 obtain ⟨i0, hi, hz0, hz1, hz2⟩ := info_parts info_Sen
 have HI := Hid.intro n2
 have HP := Hid.intro hp
 have HIN := Hid.intro hin
 clear n2 hp hin
 obtain ⟨f, HFF⟩ : ∃ f : Nat → Sen, Hid (f = fun i => enC (cAt x i)) := ⟨_, rfl⟩
 rw [← HFF.out]
 have HB1 : Hid (Blk w.heap.size #[.int .i64 x.now, .slice a1 x.services.length c1, .slice a2 x.copies.length c2, .slice a3 x.berths.length c3] 34 (w.alloc (Obj.cells #[.int .i64 x.now, .slice a1 x.services.length c1, .slice a2 x.copies.length c2, .slice a3 x.berths.length c3] 34))) := Blk.alloc _ _ _
 go_enter Tryz.func43, Tryz.ntmps43
 go_wp2_with fail
 go_loopw [5, 6] (fun v i wr => ∃ (k g q : Nat), k ≤ l.length ∧ i = .int .i64 k ∧ v = .slice (some ⟨g, 0, none⟩) k q ∧ Hid (Blk w.heap.size #[.int .i64 x.now, .slice a1 x.services.length c1, .slice a2 x.copies.length c2, .slice a3 x.berths.length c3] 34 wr) ∧ Hid (wr.ownsRow (w.heap.size + 1) 125 2 (.slice (some ⟨g, 0, none⟩) k q) k (enV ((l.take k).map f))) ∧ Below w.heap.size w wr) (fun _ i _ => l.length - (intOf i).toNat)
 case atStart =>
  refine ⟨0, w.heap.size + 1, 0, Nat.zero_le _, rfl, by simp, ?_, ?_, by go_grown⟩
  ·exact HB1.out.below ((Below.refl _ _).alloc (Nat.le_refl _) _) HB1.out.lt
  ·have := World.ownsRow_made (w.alloc (Obj.cells #[.int .i64 x.now, .slice a1 x.services.length c1, .slice a2 x.copies.length c2, .slice a3 x.berths.length c3] 34)) (e := 125) (size := 2) (base := w.heap.size + 1) #[] 0 (by simp) (Nat.zero_le _) rfl
   show World.ownsRow _ _ _ _ _ _ _
   simpa [enV] using this
 case round =>
  clear HB1
  obtain ⟨k, g, q, hk, rfl, rfl, HBK, hO, hbel⟩ := hrel
  by_cases hlt : k < l.length
  ·obtain ⟨i, hki⟩ : ∃ i, l[k]? = some i := ⟨l[k], List.getElem?_eq_getElem hlt⟩
   have hil : i < x.copies.length := HIN.out i (List.mem_of_getElem? hki)
   obtain ⟨c, hc⟩ : ∃ c, x.copies[i]? = some c := ⟨x.copies[i], List.getElem?_eq_getElem hil⟩
   obtain ⟨bl, ol, rfl, hbl, hcl⟩ := pls_at HP.out hki
   obtain ⟨b2, o2, rfl, _, hb2, hcc⟩ := HI.out.at hc
   obtain ⟨q0, q1, q2, q3, q4, q5, q6, z0, z1⟩ := hcc
   have HN : Hid ((l.take (k + 1)).map f = (l.take k).map f ++ [enC c]) := by
    show _ = _
    rw [List.take_add_one, hki, List.map_append, HFF.out]
    simp [cAt_at hc]
   have HC1 : Hid (w.cell? ⟨bl, ol + k, none⟩ = some (.int .i64 i)) := hcl
   have HC2 : Hid (w.cell? ⟨b2, o2 + i * 7 + 1, none⟩ = some (.int .i64 c.number)) := q1
   have HC3 : Hid (w.cell? ⟨b2, o2 + i * 7 + 2, none⟩ = some (.int .i64 c.version)) := q2
   have hgb : w.heap.size + 1 ≤ g := row_baseI hO.out
   clear q0 q1 q2 q3 q4 q5 q6 z0 z1 hc hki hcl
   go_upto_region 5 with fail
   have HSB : Hid (∀ wz, Below w.heap.size w wz → Blk w.heap.size #[.int .i64 x.now, .slice a1 x.services.length c1, .slice (some ⟨b2, o2, none⟩) x.copies.length c2, .slice a3 x.berths.length c3] 34 wz → (fun wy => Blk w.heap.size #[.int .i64 x.now, .slice a1 x.services.length c1, .slice (some ⟨b2, o2, none⟩) x.copies.length c2, .slice a3 x.berths.length c3] 34 wy ∧ wy.cell? ⟨bl, ol + k, none⟩ = some (.int .i64 i) ∧ wy.cell? ⟨b2, o2 + i * 7 + 1, none⟩ = some (.int .i64 c.number) ∧ wy.cell? ⟨b2, o2 + i * 7 + 2, none⟩ = some (.int .i64 c.version)) wz) := fun wz hb h => ⟨h, (hb.cell (p := ⟨bl, ol + k, none⟩) hbl).trans HC1.out, (hb.cell (p := ⟨b2, o2 + i * 7 + 1, none⟩) hb2).trans HC2.out, (hb.cell (p := ⟨b2, o2 + i * 7 + 2, none⟩) hb2).trans HC3.out⟩
   refine wp_region_held_drew (S := fun wy => Blk w.heap.size #[.int .i64 x.now, .slice a1 x.services.length c1, .slice (some ⟨b2, o2, none⟩) x.copies.length c2, .slice a3 x.berths.length c3] 34 wy ∧ wy.cell? ⟨bl, ol + k, none⟩ = some (.int .i64 i) ∧ wy.cell? ⟨b2, o2 + i * 7 + 1, none⟩ = some (.int .i64 c.number) ∧ wy.cell? ⟨b2, o2 + i * 7 + 2, none⟩ = some (.int .i64 c.version)) (by kernel_rfl) (HSB.out _ hbel.drew HBK.out.drew) (fun hS => ?_)
   have HO2 : Hid (wr.drew.ownsRow (w.heap.size + 1) 125 2 (.slice (some ⟨g, 0, none⟩) k q) k (enV ((l.take k).map f))) := ownsRow_below hO.out (Below.refl _ _).drew
   have hB2 := hbel.drew
   have HBK2 := Hid.intro HBK.out.drew
   clear hO hbel HBK
   generalize wr.drew = w2 at *
   refine tz 0 14 (.slice (some ⟨g, 0, none⟩) k q) rfl hS ?_
   simp only [pA,pB,pC,pD]
   refine tz 1 15 (.pointer (some ⟨w.heap.size, 2, none⟩)) rfl hS ?_
   simp only [pA,pB,pC,pD]
   refine ty 2 ⟨some 16, _, _, _, _, none⟩ (.slice (some ⟨b2, o2, none⟩) x.copies.length c2) rfl (by rfl) ?_ hS ?_
   ·intro wy hy
    have h0 := hy.1.cell (o := 2) rfl
    clear hy
    go_simp
   simp only [pA,pB,pC,pD]
   refine tz 3 17 (.slice (some ⟨bl, ol, none⟩) l.length cl) rfl hS ?_
   simp only [pA,pB,pC,pD]
   refine tz 4 18 (.int .i64 k) rfl hS ?_
   simp only [pA,pB,pC,pD]
   refine ty 5 ⟨some 19, _, _, _, _, none⟩ (.pointer (some ⟨bl, ol + k, none⟩)) rfl (by rfl) ?_ hS ?_
   ·intro wy hy
    clear hy
    first | (go_simp; done) | (go_simp; omega) | (go_simp; intro hh; omega)
   simp only [pA,pB,pC,pD]
   refine ty 6 ⟨some 20, _, _, _, _, none⟩ (.int .i64 i) rfl (by rfl) ?_ hS ?_
   ·intro wy hy
    have h0 := hy.2.1
    clear hy
    go_simp
   simp only [pA,pB,pC,pD]
   refine ty 7 ⟨some 21, _, _, _, _, none⟩ (.pointer (some ⟨b2, o2 + i * 7, none⟩)) rfl (by rfl) ?_ hS ?_
   ·intro wy hy
    clear hy
    first | (go_simp; done) | (go_simp; omega) | (go_simp; intro hh; omega)
   simp only [pA,pB,pC,pD]
   refine tz 8 22 (.pointer (some ⟨b2, o2 + i * 7 + 1, none⟩)) rfl hS ?_
   simp only [pA,pB,pC,pD]
   refine ty 9 ⟨some 23, _, _, _, _, none⟩ (.int .i64 c.number) rfl (by rfl) ?_ hS ?_
   ·intro wy hy
    have h0 := hy.2.2.1
    clear hy
    go_simp
   simp only [pA,pB,pC,pD]
   refine tz 10 24 (.pointer (some ⟨w.heap.size, 2, none⟩)) rfl hS ?_
   simp only [pA,pB,pC,pD]
   refine ty 11 ⟨some 25, _, _, _, _, none⟩ (.slice (some ⟨b2, o2, none⟩) x.copies.length c2) rfl (by rfl) ?_ hS ?_
   ·intro wy hy
    have h0 := hy.1.cell (o := 2) rfl
    clear hy
    go_simp
   simp only [pA,pB,pC,pD]
   refine tz 12 26 (.slice (some ⟨bl, ol, none⟩) l.length cl) rfl hS ?_
   simp only [pA,pB,pC,pD]
   refine tz 13 27 (.int .i64 k) rfl hS ?_
   simp only [pA,pB,pC,pD]
   refine ty 14 ⟨some 28, _, _, _, _, none⟩ (.pointer (some ⟨bl, ol + k, none⟩)) rfl (by rfl) ?_ hS ?_
   ·intro wy hy
    clear hy
    first | (go_simp; done) | (go_simp; omega) | (go_simp; intro hh; omega)
   simp only [pA,pB,pC,pD]
   refine ty 15 ⟨some 29, _, _, _, _, none⟩ (.int .i64 i) rfl (by rfl) ?_ hS ?_
   ·intro wy hy
    have h0 := hy.2.1
    clear hy
    go_simp
   simp only [pA,pB,pC,pD]
   refine ty 16 ⟨some 30, _, _, _, _, none⟩ (.pointer (some ⟨b2, o2 + i * 7, none⟩)) rfl (by rfl) ?_ hS ?_
   ·intro wy hy
    clear hy
    first | (go_simp; done) | (go_simp; omega) | (go_simp; intro hh; omega)
   simp only [pA,pB,pC,pD]
   refine tz 17 31 (.pointer (some ⟨b2, o2 + i * 7 + 2, none⟩)) rfl hS ?_
   simp only [pA,pB,pC,pD]
   refine ty 18 ⟨some 32, _, _, _, _, none⟩ (.int .i64 c.version) rfl (by rfl) ?_ hS ?_
   ·intro wy hy
    have h0 := hy.2.2.2
    clear hy
    go_simp
   simp only [pA,pB,pC,pD]
   refine tz 19 33 (.agg #[.int .i64 c.number, .int .i64 c.version]) rfl hS ?_
   simp only [pA,pB,pC,pD]
   refine rd1 20 ⟨some 34, _, _, _, _, none⟩ rfl (fun KK hKK => ?_)
   go_simp
   have HNB : Hid (Blk w2.heap.size #[.int .i64 c.number, .int .i64 c.version] 125 (w2.alloc (Obj.cells #[.int .i64 c.number, .int .i64 c.version] 125))) := Blk.alloc _ _ _
   have hb3 : Below w2.heap.size w2 (w2.alloc (Obj.cells #[.int .i64 c.number, .int .i64 c.version] 125)) := (Below.refl _ _).alloc (Nat.le_refl _) _
   have HO3 := Hid.intro (ownsRow_below HO2.out hb3)
   have hB3 := hB2.trans (hb3.mono hB2.size)
   have HBK3 := Hid.intro (HBK2.out.below hb3 HBK2.out.lt)
   have hsz : w.heap.size + 1 ≤ w2.heap.size := HBK2.out.lt
   have hsz3 : w2.heap.size < (w2.alloc (Obj.cells #[.int .i64 c.number, .int .i64 c.version] 125)).heap.size := HNB.out.lt
   refine hKK.out _ _ (HSB.out _ hB3 HBK3.out) (fun hS => ?_)
   clear hKK KK hb3 HO2 hB2 HBK2
   generalize w2.alloc (Obj.cells #[.int .i64 c.number, .int .i64 c.version] 125) = w3 at *
   generalize w2.heap.size = gn at *
   refine rd1 21 ⟨some 35, _, _, _, _, none⟩ rfl (fun KK hKK => ?_)
   refine step_append_lies _ rfl (.tmp 14) (.tmp 34) 45 rfl (w.heap.size + 1) 125 i0 _ 2 16 Tryz.underlying45 hi hz0 hz1 hz2 rfl (by decide) _ k _ rfl HO3.out ⟨gn, 0, none⟩ 1 1 [.int .i64 c.number, .int .i64 c.version] rfl rfl (two_at HNB.out) (by intro u hu; simp at hu; rcases hu with rfl | rfl <;> rfl) (by omega) (by unfold maxLen; omega) (by omega) (by omega) _ rfl ?_
   intro g2 cap2 w4 hown hgrow hto hgl
   have hB4 : Below w.heap.size w w4 := hB3.grown hgrow hB3.size (fun j hj => by have e2 : g = j := Option.some.inj hj; omega)
   have HBK4 : Hid (Blk w.heap.size #[.int .i64 x.now, .slice a1 x.services.length c1, .slice (some ⟨b2, o2, none⟩) x.copies.length c2, .slice a3 x.berths.length c3] 34 w4) := (hgrow.block w.heap.size HBK3.out.lt (fun e => by have e2 : w.heap.size = g := Option.some.inj e; omega)).trans HBK3.out
   refine hKK.out _ _ (HSB.out _ hB4 HBK4.out) (fun hS => ?_)
   clear hKK KK
   simp only [pA,pB,pC,pD]
   refine tz 22 5 (.slice (some ⟨g2, 0, none⟩) (k + 1) cap2) rfl hS ?_
   simp only [pA,pB,pC,pD]
   refine wpAnyH_done (by kernel_rfl) ?_ _
   clear hS
   go_wp2_with fail
   go_roundw
   case rel =>
    refine ⟨k + 1, g2, cap2, by omega, by go_num, rfl, HBK4, ?_, hB4⟩
    show World.ownsRow _ _ _ _ _ _ _
    rw [HN.out, enV_snoc]
    exact hown
   case measure => simp [intOf]; omega
  ·have hke : k = l.length := by omega
   subst hke
   go_wp2_with fail
   go_ret
   refine ⟨g, q, by rw [List.length_map]; rfl, ?_, hbel⟩
   have h9 := hO.out
   rw [List.take_length] at h9
   have h8 := row_ens (l := l.map f) (by rw [List.length_map]; exact h9) (by rw [List.length_map]; unfold maxLen; omega)
   exact h8.keep SenC.holds (Keeps.refl _ _) (by omega)

theorem filt_step {p : Nat → Bool} {l : List Nat} {k i : Nat} (h : l[k]? = some i) : (l.take (k + 1)).filter p = (l.take k).filter p ++ (if p i = true then [i] else []) := by
 rw [List.take_add_one, h, List.filter_append]
 cases hp : p i <;> simp [hp]
theorem filt_len (p : Nat → Bool) (l : List Nat) (k : Nat) : ((l.take k).filter p).length ≤ l.length := by
 have h1 := List.length_filter_le p (l.take k)
 have h2 : (l.take k).length ≤ l.length := by rw [List.length_take]; omega
 omega

set_option maxHeartbeats 8000000 in
set_option maxRecDepth 100000 in
theorem may22_any (x : Sbk) (a1 : Option Addr) (c1 : Nat) (a2 : Option Addr) (c2 : Nat) (a3 : Option Addr) (c3 : Nat) (lo lp : Nat) (l : List Nat) (al : Option Addr) (cl : Nat) (w : World) (n1 : SliceC SsvC 13 lo w a1 x.services) (n2 : SliceC ScpC 7 lo w a2 x.copies) (hv : SWk x) (hp : Pls lp w al l) (hin : ∀ i ∈ l, i < x.copies.length) (hl2 : l.length ≤ 1048576) :
  Calls Tryz.prog 73 #[.agg #[.int .i64 x.now, .slice a1 x.services.length c1, .slice a2 x.copies.length c2, .slice a3 x.berths.length c3], .slice al l.length cl] w fun e w' => PlRes (l.filter (fun i => mayB x (cAt x i).service (cAt x i).number)) w e w' := by
 obtain ⟨i0, hi, hz0, hz1, hz2⟩ := info_parts info_int
 have HN1 := Hid.intro n1
 have HI := Hid.intro n2
 have HP := Hid.intro hp
 have HIN := Hid.intro hin
 have HV := Hid.intro hv
 clear n1 n2 hp hin hv
 obtain ⟨f, HFF⟩ : ∃ f : Nat → Bool, Hid (f = fun i => mayB x (cAt x i).service (cAt x i).number) := ⟨_, rfl⟩
 rw [← HFF.out]
 have HB1 : Hid (Blk w.heap.size #[.int .i64 x.now, .slice a1 x.services.length c1, .slice a2 x.copies.length c2, .slice a3 x.berths.length c3] 34 (w.alloc (Obj.cells #[.int .i64 x.now, .slice a1 x.services.length c1, .slice a2 x.copies.length c2, .slice a3 x.berths.length c3] 34))) := Blk.alloc _ _ _
 go_enter Tryz.func73, Tryz.ntmps73
 go_wp2_with fail
 go_loopw [5, 6] (fun v i wr => ∃ (k g q : Nat), k ≤ l.length ∧ i = .int .i64 k ∧ v = .slice (some ⟨g, 0, none⟩) ((l.take k).filter f).length q ∧ Hid (Blk w.heap.size #[.int .i64 x.now, .slice a1 x.services.length c1, .slice a2 x.copies.length c2, .slice a3 x.berths.length c3] 34 wr) ∧ Hid (wr.ownsRow (w.heap.size + 1) 3 1 (.slice (some ⟨g, 0, none⟩) ((l.take k).filter f).length q) ((l.take k).filter f).length (inV (toI ((l.take k).filter f)))) ∧ Below w.heap.size w wr) (fun _ i _ => l.length - (intOf i).toNat)
 case atStart =>
  refine ⟨0, w.heap.size + 1, 0, Nat.zero_le _, rfl, by simp, ?_, ?_, by go_grown⟩
  ·exact HB1.out.below ((Below.refl _ _).alloc (Nat.le_refl _) _) HB1.out.lt
  ·have := World.ownsRow_made (w.alloc (Obj.cells #[.int .i64 x.now, .slice a1 x.services.length c1, .slice a2 x.copies.length c2, .slice a3 x.berths.length c3] 34)) (e := 3) (size := 1) (base := w.heap.size + 1) #[] 0 (by simp) (Nat.zero_le _) rfl
   show World.ownsRow _ _ _ _ _ _ _
   simpa using this
 case round =>
  clear HB1
  obtain ⟨k, g, q, hk, rfl, rfl, HBK, hO, hbel⟩ := hrel
  by_cases hlt : k < l.length
  ·obtain ⟨i, hki⟩ : ∃ i, l[k]? = some i := ⟨l[k], List.getElem?_eq_getElem hlt⟩
   have hil : i < x.copies.length := HIN.out i (List.mem_of_getElem? hki)
   obtain ⟨c, hc⟩ : ∃ c, x.copies[i]? = some c := ⟨x.copies[i], List.getElem?_eq_getElem hil⟩
   obtain ⟨bl, ol, rfl, hbl, hcl⟩ := pls_at HP.out hki
   obtain ⟨b2, o2, rfl, _, hb2, hcc⟩ := HI.out.at hc
   obtain ⟨q0, q1, q2, q3, q4, q5, q6, z0, z1⟩ := hcc
   simp only [Nat.add_zero] at q0
   have HFI : Hid (f i = mayB x c.service c.number) := by show _ = _; rw [HFF.out]; show mayB x (cAt x i).service (cAt x i).number = _; rw [cAt_at hc]
   have HKI := Hid.intro hki
   have HC1 : Hid (w.cell? ⟨bl, ol + k, none⟩ = some (.int .i64 i)) := hcl
   have HC2 : Hid (w.cell? ⟨b2, o2 + i * 7, none⟩ = some (.string c.service)) := q0
   have HC3 : Hid (w.cell? ⟨b2, o2 + i * 7 + 1, none⟩ = some (.int .i64 c.number)) := q1
   have hgb : w.heap.size + 1 ≤ g := row_baseI hO.out
   clear q0 q1 q2 q3 q4 q5 q6 z0 z1 hc hki hcl
   have hfl := filt_len f l k
   obtain ⟨M, HM⟩ : ∃ M, Hid (M = (l.take k).filter f) := ⟨_, rfl⟩
   rw [← HM.out] at hO hfl ⊢
   go_upto_region 5 with fail
   have HSB : Hid (∀ wz, Below w.heap.size w wz → Blk w.heap.size #[.int .i64 x.now, .slice a1 x.services.length c1, .slice (some ⟨b2, o2, none⟩) x.copies.length c2, .slice a3 x.berths.length c3] 34 wz → (fun wy => Blk w.heap.size #[.int .i64 x.now, .slice a1 x.services.length c1, .slice (some ⟨b2, o2, none⟩) x.copies.length c2, .slice a3 x.berths.length c3] 34 wy ∧ wy.cell? ⟨bl, ol + k, none⟩ = some (.int .i64 i) ∧ wy.cell? ⟨b2, o2 + i * 7, none⟩ = some (.string c.service) ∧ wy.cell? ⟨b2, o2 + i * 7 + 1, none⟩ = some (.int .i64 c.number)) wz) := fun wz hb h => ⟨h, (hb.cell (p := ⟨bl, ol + k, none⟩) hbl).trans HC1.out, (hb.cell (p := ⟨b2, o2 + i * 7, none⟩) hb2).trans HC2.out, (hb.cell (p := ⟨b2, o2 + i * 7 + 1, none⟩) hb2).trans HC3.out⟩
   refine wp_region_held_drew (S := fun wy => Blk w.heap.size #[.int .i64 x.now, .slice a1 x.services.length c1, .slice (some ⟨b2, o2, none⟩) x.copies.length c2, .slice a3 x.berths.length c3] 34 wy ∧ wy.cell? ⟨bl, ol + k, none⟩ = some (.int .i64 i) ∧ wy.cell? ⟨b2, o2 + i * 7, none⟩ = some (.string c.service) ∧ wy.cell? ⟨b2, o2 + i * 7 + 1, none⟩ = some (.int .i64 c.number)) (by kernel_rfl) (HSB.out _ hbel.drew HBK.out.drew) (fun hS => ?_)
   have HO2 : Hid (wr.drew.ownsRow (w.heap.size + 1) 3 1 (.slice (some ⟨g, 0, none⟩) M.length q) M.length (inV (toI M))) := ownsRow_below hO.out (Below.refl _ _).drew
   have hB2 := hbel.drew
   have HBK2 := Hid.intro HBK.out.drew
   clear hO hbel HBK
   generalize wr.drew = w2 at *
   refine tm 0 14 w.heap.size 0 [.int .i64 x.now, .slice a1 x.services.length c1, .slice (some ⟨b2, o2, none⟩) x.copies.length c2, .slice a3 x.berths.length c3] rfl (fun _ h => h.1.rangeA) Tryz.underlying34 isz_Sbk hS ?_
   simp only [pA,pB,pC,pD]
   refine tz 1 15 (.pointer (some ⟨w.heap.size, 2, none⟩)) rfl hS ?_
   simp only [pA,pB,pC,pD]
   refine ty 2 ⟨some 16, _, _, _, _, none⟩ (.slice (some ⟨b2, o2, none⟩) x.copies.length c2) rfl (by rfl) ?_ hS ?_
   ·intro wy hy
    have h0 := hy.1.cell (o := 2) rfl
    clear hy
    go_simp
   simp only [pA,pB,pC,pD]
   refine tz 3 17 (.slice (some ⟨bl, ol, none⟩) l.length cl) rfl hS ?_
   simp only [pA,pB,pC,pD]
   refine tz 4 18 (.int .i64 k) rfl hS ?_
   simp only [pA,pB,pC,pD]
   refine ty 5 ⟨some 19, _, _, _, _, none⟩ (.pointer (some ⟨bl, ol + k, none⟩)) rfl (by rfl) ?_ hS ?_
   ·intro wy hy
    clear hy
    first | (go_simp; done) | (go_simp; omega) | (go_simp; intro hh; omega)
   simp only [pA,pB,pC,pD]
   refine ty 6 ⟨some 20, _, _, _, _, none⟩ (.int .i64 i) rfl (by rfl) ?_ hS ?_
   ·intro wy hy
    have h0 := hy.2.1
    clear hy
    go_simp
   simp only [pA,pB,pC,pD]
   refine ty 7 ⟨some 21, _, _, _, _, none⟩ (.pointer (some ⟨b2, o2 + i * 7, none⟩)) rfl (by rfl) ?_ hS ?_
   ·intro wy hy
    clear hy
    first | (go_simp; done) | (go_simp; omega) | (go_simp; intro hh; omega)
   simp only [pA,pB,pC,pD]
   refine tz 8 22 (.pointer (some ⟨b2, o2 + i * 7, none⟩)) rfl hS ?_
   simp only [pA,pB,pC,pD]
   refine ty 9 ⟨some 23, _, _, _, _, none⟩ (.string c.service) rfl (by rfl) ?_ hS ?_
   ·intro wy hy
    have h0 := hy.2.2.1
    clear hy
    go_simp
   simp only [pA,pB,pC,pD]
   refine tz 10 24 (.pointer (some ⟨w.heap.size, 2, none⟩)) rfl hS ?_
   simp only [pA,pB,pC,pD]
   refine ty 11 ⟨some 25, _, _, _, _, none⟩ (.slice (some ⟨b2, o2, none⟩) x.copies.length c2) rfl (by rfl) ?_ hS ?_
   ·intro wy hy
    have h0 := hy.1.cell (o := 2) rfl
    clear hy
    go_simp
   simp only [pA,pB,pC,pD]
   refine tz 12 26 (.slice (some ⟨bl, ol, none⟩) l.length cl) rfl hS ?_
   simp only [pA,pB,pC,pD]
   refine tz 13 27 (.int .i64 k) rfl hS ?_
   simp only [pA,pB,pC,pD]
   refine ty 14 ⟨some 28, _, _, _, _, none⟩ (.pointer (some ⟨bl, ol + k, none⟩)) rfl (by rfl) ?_ hS ?_
   ·intro wy hy
    clear hy
    first | (go_simp; done) | (go_simp; omega) | (go_simp; intro hh; omega)
   simp only [pA,pB,pC,pD]
   refine ty 15 ⟨some 29, _, _, _, _, none⟩ (.int .i64 i) rfl (by rfl) ?_ hS ?_
   ·intro wy hy
    have h0 := hy.2.1
    clear hy
    go_simp
   simp only [pA,pB,pC,pD]
   refine ty 16 ⟨some 30, _, _, _, _, none⟩ (.pointer (some ⟨b2, o2 + i * 7, none⟩)) rfl (by rfl) ?_ hS ?_
   ·intro wy hy
    clear hy
    first | (go_simp; done) | (go_simp; omega) | (go_simp; intro hh; omega)
   simp only [pA,pB,pC,pD]
   refine tz 17 31 (.pointer (some ⟨b2, o2 + i * 7 + 1, none⟩)) rfl hS ?_
   simp only [pA,pB,pC,pD]
   refine ty 18 ⟨some 32, _, _, _, _, none⟩ (.int .i64 c.number) rfl (by rfl) ?_ hS ?_
   ·intro wy hy
    have h0 := hy.2.2.2
    clear hy
    go_simp
   simp only [pA,pB,pC,pD]
   refine rd1 19 ⟨some 33, _, _, _, _, none⟩ rfl (fun K hK => ?_)
   go_simp
   refine (mayEnd20_any x a1 c1 _ c2 a3 c3 lo c.service c.number _ (HN1.out.below SsvC.holds hB2 (Nat.le_refl _)) (HI.out.below ScpC.holds hB2 (Nat.le_refl _)) HV.out).mono ?_
   rintro e w3 ⟨rfl, hb3⟩
   have HO3 := Hid.intro (ownsRow_below HO2.out hb3)
   have hB3 := hB2.trans (hb3.mono hB2.size)
   have HBK3 := Hid.intro (HBK2.out.below hb3 HBK2.out.lt)
   clear HO2 hB2 HBK2
   refine hK.out _ _ (HSB.out _ hB3 HBK3.out) (fun hS => ?_)
   clear hK K
   clear hb3
   refine wpAnyH_done (by kernel_rfl) ?_ _
   clear hS
   rw [← HFI.out]
   cases hfi : f i with
   | false =>
    have HN : Hid ((l.take (k + 1)).filter f = M) := by show _ = _; rw [filt_step HKI.out, hfi, HM.out]; simp
    clear hfi
    go_wp2_with fail
    go_roundw
    case rel => exact ⟨k + 1, g, q, by omega, by go_num, by rw [HN.out], HBK3, by show World.ownsRow _ _ _ _ _ _ _; rw [HN.out]; exact HO3.out, hB3⟩
    case measure => simp [intOf]; omega
   | true =>
    have HN : Hid ((l.take (k + 1)).filter f = M ++ [i]) := by show _ = _; rw [filt_step HKI.out, hfi, HM.out]; simp
    clear hfi
    have k1 : w3.cell? ⟨bl, ol + k, none⟩ = some (.int .i64 i) := (hB3.cell (p := ⟨bl, ol + k, none⟩) hbl).trans HC1.out
    have hb4 : Below w3.heap.size w3 (w3.alloc (Obj.cells #[Value.int IntKind.i64 (i : Int)] 3)) := (Below.refl _ w3).alloc (Nat.le_refl _) _
    have HOA := Hid.intro (ownsRow_below HO3.out hb4)
    have hB4 := hB3.trans (hb4.mono hB3.size)
    have HBK4 := Hid.intro (HBK3.out.below hb4 HBK3.out.lt)
    clear hb4
    generalize hL : M.length = L at *
    have hsz : w.heap.size < w3.heap.size := HBK3.out.lt
    go_wp2_with (at_builtin; refine wpList_append_lies _ rfl (.tmp 34) (.tmp 39) 90 rfl (w.heap.size + 1) 3 i0 _ 1 8 Tryz.underlying90 hi hz0 hz1 hz2 rfl (by decide) _ L _ rfl HOA.out ⟨w3.heap.size, 0, none⟩ 1 1 [.int .i64 (i : Int)] rfl rfl (oneI (by simp)) (by intro u hu; rw [List.mem_singleton.1 hu]; rfl) (by omega) (by unfold maxLen; omega) (by omega) (by simp; omega) _ rfl ?_; intro g2 cap2 w5 hown hgrow hto hgl)
    go_roundw
    case rel =>
     refine ⟨k + 1, g2, cap2, by omega, by go_num, ?_, ?_, ?_, hB4.grown hgrow hB4.size (fun j hj => by have e2 : g = j := Option.some.inj hj; omega)⟩
     ·rw [HN.out, List.length_append, hL]; rfl
     ·exact (hgrow.block w.heap.size HBK4.out.lt (fun e => by have e2 : w.heap.size = g := Option.some.inj e; omega)).trans HBK4.out
     ·show World.ownsRow _ _ _ _ _ _ _
      rw [HN.out, List.length_append, hL]
      simpa [inV, toI] using hown
    case measure => simp [intOf]; omega
  ·have hke : k = l.length := by omega
   subst hke
   have hfl := filt_len f l l.length
   go_wp2_with fail
   go_ret
   rw [List.take_length] at hO hfl
   refine ⟨g, q, by rw [List.take_length]; rfl, ?_, hbel⟩
   exact (row_pls hO.out (by unfold maxLen; omega)).keep IntC.holds (Keeps.refl _ _) (by omega)

end Go.Proofs.YtnggdpjfmpjlhaaGreat
