import Derived.Test.YtnifmiacobfplaaTkw
import Derived.Test.YtnifmiacobfplaaDr1
import Derived.Test.YtnifmiacobfplaaMt4
import Derived.Test.YtnifmiacobfplaaJ3
import Derived.Deep.RegionHeld3
namespace Go.Proofs.Ytnifmiacobfplaa
open Go.RowKit

theorem wpAnyH_mono {P : Program} {md : Region.Mode} {ops : Array Oper} {Q : Exit → Act → World → Prop} {S S' : World → Prop} (hS : ∀ w, S' w → S w) : ∀ (fuel : Nat) (listed : Array Bool) (a : Act) (w : World), wpAnyH P md ops Q S' fuel listed a w → wpAnyH P md ops Q S fuel listed a w
 | 0, _, _, _, h => h
 | fuel + 1, _, _, _, h => ⟨h.1, fun i hi => wpOp_mono (fun a' w' h' => ⟨hS w' h'.1, wpAnyH_mono hS fuel _ a' w' h'.2⟩) (h.2 i hi)⟩

theorem wpAnyH_name {P : Program} {md : Region.Mode} {ops : Array Oper} {Q : Exit → Act → World → Prop} {S : World → Prop} {fuel : Nat} {listed : Array Bool} {a : Act} {w : World} (h : ∀ Z : (World → Prop) → Nat → Array Bool → Act → World → Prop, Hid (Z = wpAnyH P md ops Q) → Z S fuel listed a w) : wpAnyH P md ops Q S fuel listed a w := h _ (Hid.intro rfl)

theorem holdAt (v : Nat) (h : (v : Int) < 4) : ∃ s : ByteArray, (#[.string ⟨#[]⟩, .string ⟨#[118, 111, 108]⟩, .string ⟨#[105, 112]⟩, .string ⟨#[118, 111, 108, 50]⟩] : Array Value)[v]? = some (.string s) ∧ s.size ≤ 4 := by
 rcases (by omega : v = 0 ∨ v = 1 ∨ v = 2 ∨ v = 3) with rfl | rfl | rfl | rfl <;> exact ⟨_, rfl, by decide⟩
theorem diesAt (v : Nat) (h : (v : Int) < 6) : ∃ d : Int, (#[.int .i64 0, .int .i64 0, .int .i64 0, .int .i64 1, .int .i64 3, .int .i64 8] : Array Value)[v]? = some (.int .i64 d) := by
 rcases (by omega : v = 0 ∨ v = 1 ∨ v = 2 ∨ v = 3 ∨ v = 4 ∨ v = 5) with rfl | rfl | rfl | rfl | rfl | rfl <;> exact ⟨_, rfl⟩
set_option maxHeartbeats 40000000 in
set_option maxRecDepth 100000 in
theorem drawWant_any (p k0 : Nat) (s : ByteArray) (w : World) (hR : RdS p k0 w) (hK0 : k0 ≤ 900000) :
  Calls Try.prog 71 #[.pointer (some ⟨p, 0, none⟩), .string s] w fun e w' => ∃ y : Wnt, e = .returned (.agg #[.string y.copy, .int .i64 y.version, .string y.hold, .int .i64 y.pull, .int .i64 y.start, .int .i64 y.dies, .int .i64 y.grace]) ∧ y.copy = s ∧ y.hold.size ≤ 4 ∧ (0 ≤ y.grace ∧ y.grace ≤ 3) ∧ RdS p (k0 + 6) w' ∧ Bt p w.heap.size w w' := by
 have HZ : Hid (Blk w.heap.size #[.string ⟨#[]⟩, .int .i64 0, .string ⟨#[]⟩, .int .i64 0, .int .i64 0, .int .i64 0, .int .i64 0] 36 (w.alloc (.cells #[.string ⟨#[]⟩, .int .i64 0, .string ⟨#[]⟩, .int .i64 0, .int .i64 0, .int .i64 0, .int .i64 0] 36))) := Blk.alloc _ _ _
 have hba : Below w.heap.size w (w.alloc (.cells #[.string ⟨#[]⟩, .int .i64 0, .string ⟨#[]⟩, .int .i64 0, .int .i64 0, .int .i64 0, .int .i64 0] 36)) := (Below.refl _ _).alloc (Nat.le_refl _) _
 have HR : Hid (RdS p k0 (w.alloc (.cells #[.string ⟨#[]⟩, .int .i64 0, .string ⟨#[]⟩, .int .i64 0, .int .i64 0, .int .i64 0, .int .i64 0] 36))) := hR.below hba hR.lt
 have hpl := hR.lt
 have HB : Hid (Bt p w.heap.size w (w.alloc (.cells #[.string ⟨#[]⟩, .int .i64 0, .string ⟨#[]⟩, .int .i64 0, .int .i64 0, .int .i64 0, .int .i64 0] 36))) := Bt.of_below hba
 clear hR hba
 go_enter Try.func71, Try.ntmps71
 go_upto_region 1 with fail
 generalize w.alloc (Obj.cells #[.string ⟨#[]⟩, .int .i64 0, .string ⟨#[]⟩, .int .i64 0, .int .i64 0, .int .i64 0, .int .i64 0] 36) = w0 at *
 refine wp_region_held_drew (S := fun _ => True) (by kernel_rfl) trivial (fun hS => ?_)
 refine wpAnyH_name (fun Z HZZ => ?_)
 have st611 : Hid (∀ (v1 : Nat) (v2 : Nat) (v3 : Nat) (v4 : Nat) (v5 : Nat) (v6 : Nat) (bA : Nat) (bB : Nat) (hd : ByteArray) (dd : Int) (wc : World), (v1 : Int) < 3 → (v2 : Int) < 4 → (v3 : Int) < 4 → (v4 : Int) < 3 → (v5 : Int) < 6 → (v6 : Int) < 4 → w.heap.size < bA → Hid (Blk bA #[.string ⟨#[]⟩, .string ⟨#[118, 111, 108]⟩, .string ⟨#[105, 112]⟩, .string ⟨#[118, 111, 108, 50]⟩] 9 wc) → w.heap.size < bB → Hid (Blk bB #[.int .i64 0, .int .i64 0, .int .i64 0, .int .i64 1, .int .i64 3, .int .i64 8] 3 wc) → hd.size ≤ 4 → Hid (RdS p (k0 + 6) wc) → Hid (Bt p w.heap.size w wc) → Hid (Blk w.heap.size #[.string ⟨#[]⟩, .int .i64 0, .string ⟨#[]⟩, .int .i64 0, .int .i64 0, .int .i64 0, .int .i64 0] 36 wc) → ∀ L, L = #[true, true, true, true, true, true, true, true, true, true, true, true, true, true, true, true, true, true, true, true, false, false] → Z (fun wy => Blk bA #[.string ⟨#[]⟩, .string ⟨#[118, 111, 108]⟩, .string ⟨#[105, 112]⟩, .string ⟨#[118, 111, 108, 50]⟩] 9 wy ∧ Blk bB #[.int .i64 0, .int .i64 0, .int .i64 0, .int .i64 1, .int .i64 3, .int .i64 8] 3 wy) 2 L ⟨#[.pointer (some ⟨p, 0, none⟩), .string s, undef, undef, .pointer (some ⟨w.heap.size, 0, none⟩), .string s, .pointer (some ⟨p, 0, none⟩), .int .i64 (v1 : Int), .int .i64 (1 + (v1 : Int)), .slice (some ⟨bA, 0, none⟩) 4 4, .pointer (some ⟨p, 0, none⟩), .int .i64 (v2 : Int), .pointer (some ⟨bA, v2, none⟩), .string hd, .pointer (some ⟨p, 0, none⟩), .int .i64 (v3 : Int), .pointer (some ⟨p, 0, none⟩), .int .i64 (v4 : Int), .slice (some ⟨bB, 0, none⟩) 6 6, .pointer (some ⟨p, 0, none⟩), .int .i64 (v5 : Int), .pointer (some ⟨bB, v5, none⟩), .int .i64 dd, .pointer (some ⟨p, 0, none⟩), .int .i64 (v6 : Int), undef], []⟩ wc) := by
  intro v1 v2 v3 v4 v5 v6 bA bB hd dd wc hv1 hv2 hv3 hv4 hv5 hv6 hA HA hB HBb hhd HR HB HZ L hL
  subst hL
  rw [HZZ.out]
  have hS : (fun wy => Blk bA #[.string ⟨#[]⟩, .string ⟨#[118, 111, 108]⟩, .string ⟨#[105, 112]⟩, .string ⟨#[118, 111, 108, 50]⟩] 9 wy ∧ Blk bB #[.int .i64 0, .int .i64 0, .int .i64 0, .int .i64 1, .int .i64 3, .int .i64 8] 3 wy) wc := ⟨HA.out, HBb.out⟩
  refine ty 20 ⟨some 25, _, _, _, _, none⟩ (.agg #[.string s, .int .i64 (1 + (v1 : Int)), .string hd, .int .i64 (v3 : Int), .int .i64 (v4 : Int), .int .i64 dd, .int .i64 (v6 : Int)]) rfl (by rfl) ?_ hS ?_
  ·intro wy hy
   clear hy
   go_simp
  simp only [pA, pB, pC, pD]
  refine rd1 21 ⟨none, _, _, _, _, none⟩ rfl (fun K hK => ?_)
  rw [if_pos (by rfl)]
  refine wp_store_mid 36 (.tmp 4) (.tmp 25) (by rfl) w.heap.size 0 #[.string s, .int .i64 (1 + (v1 : Int)), .string hd, .int .i64 (v3 : Int), .int .i64 (v4 : Int), .int .i64 dd, .int .i64 (v6 : Int)] (by rfl) (by rfl) HZ.out.there isz_Wnt (by simp [Value.oneCell']) ?_
  have HRf : Hid ((wc.setCells w.heap.size 0 [.string s, .int .i64 (1 + (v1 : Int)), .string hd, .int .i64 (v3 : Int), .int .i64 (v4 : Int), .int .i64 dd, .int .i64 (v6 : Int)]).rangeAt w.heap.size 0 [.string s, .int .i64 (1 + (v1 : Int)), .string hd, .int .i64 (v3 : Int), .int .i64 (v4 : Int), .int .i64 dd, .int .i64 (v6 : Int)]) := World.rangeAt_setCells_same wc w.heap.size 0 _ HZ.out.there
  have hbs : Below w.heap.size wc (wc.setCells w.heap.size 0 [.string s, .int .i64 (1 + (v1 : Int)), .string hd, .int .i64 (v3 : Int), .int .i64 (v4 : Int), .int .i64 dd, .int .i64 (v6 : Int)]) := below_setCells (Nat.le_refl _) _ _ _ (Below.refl _ _)
  replace HR : Hid (RdS p (k0 + 6) (wc.setCells w.heap.size 0 [.string s, .int .i64 (1 + (v1 : Int)), .string hd, .int .i64 (v3 : Int), .int .i64 (v4 : Int), .int .i64 dd, .int .i64 (v6 : Int)])) := HR.out.below hbs hpl
  replace HB : Hid (Bt p w.heap.size w (wc.setCells w.heap.size 0 [.string s, .int .i64 (1 + (v1 : Int)), .string hd, .int .i64 (v3 : Int), .int .i64 (v4 : Int), .int .i64 dd, .int .i64 (v6 : Int)])) := HB.out.trans (Bt.of_below hbs)
  refine hK.out _ _ ⟨blk_setCells_other (by omega) _ _ _ HA.out, blk_setCells_other (by omega) _ _ _ HBb.out⟩ (fun hS => ?_)
  clear hK K hbs hS
  generalize wc.setCells w.heap.size 0 [.string s, .int .i64 (1 + (v1 : Int)), .string hd, .int .i64 (v3 : Int), .int .i64 (v4 : Int), .int .i64 dd, .int .i64 (v6 : Int)] = wf at *
  refine wpAnyH_done (by kernel_rfl) ?_ _
  go_wp2_with fail
  exact bodyPost_ret (results_cell_mid rfl _ _ w.heap.size [.string s, .int .i64 (1 + (v1 : Int)), .string hd, .int .i64 (v3 : Int), .int .i64 (v4 : Int), .int .i64 dd, .int .i64 (v6 : Int)] _ rfl HRf.out Try.underlying36 rfl isz_Wnt) rfl ⟨⟨s, 1 + (v1 : Int), hd, v3, v4, dd, v6⟩, rfl, rfl, hhd, ⟨by show (0 : Int) ≤ (v6 : Int); omega, by show (v6 : Int) ≤ 3; omega⟩, HR.out, HB.out⟩
 have st610 : Hid (∀ (v1 : Nat) (v2 : Nat) (v3 : Nat) (v4 : Nat) (v5 : Nat) (v6 : Nat) (bA : Nat) (hd : ByteArray) (wc : World), (v1 : Int) < 3 → (v2 : Int) < 4 → (v3 : Int) < 4 → (v4 : Int) < 3 → (v5 : Int) < 6 → (v6 : Int) < 4 → w.heap.size < bA → Hid (Blk bA #[.string ⟨#[]⟩, .string ⟨#[118, 111, 108]⟩, .string ⟨#[105, 112]⟩, .string ⟨#[118, 111, 108, 50]⟩] 9 wc) → hd.size ≤ 4 → Hid (RdS p (k0 + 6) wc) → Hid (Bt p w.heap.size w wc) → Hid (Blk w.heap.size #[.string ⟨#[]⟩, .int .i64 0, .string ⟨#[]⟩, .int .i64 0, .int .i64 0, .int .i64 0, .int .i64 0] 36 wc) → ∀ L, L = #[true, true, true, true, true, true, true, true, true, true, true, true, true, false, true, true, false, false, true, true, false, false] → Z (fun wy => Blk bA #[.string ⟨#[]⟩, .string ⟨#[118, 111, 108]⟩, .string ⟨#[105, 112]⟩, .string ⟨#[118, 111, 108, 50]⟩] 9 wy) 5 L ⟨#[.pointer (some ⟨p, 0, none⟩), .string s, undef, undef, .pointer (some ⟨w.heap.size, 0, none⟩), .string s, .pointer (some ⟨p, 0, none⟩), .int .i64 (v1 : Int), .int .i64 (1 + (v1 : Int)), .slice (some ⟨bA, 0, none⟩) 4 4, .pointer (some ⟨p, 0, none⟩), .int .i64 (v2 : Int), .pointer (some ⟨bA, v2, none⟩), .string hd, .pointer (some ⟨p, 0, none⟩), .int .i64 (v3 : Int), .pointer (some ⟨p, 0, none⟩), .int .i64 (v4 : Int), undef, .pointer (some ⟨p, 0, none⟩), .int .i64 (v5 : Int), undef, undef, .pointer (some ⟨p, 0, none⟩), .int .i64 (v6 : Int), undef], []⟩ wc) := by
  intro v1 v2 v3 v4 v5 v6 bA hd wc hv1 hv2 hv3 hv4 hv5 hv6 hA HA hhd HR HB HZ L hL
  subst hL
  rw [HZZ.out]
  refine rd1 13 ⟨some 18, _, _, _, _, none⟩ rfl (fun K hK => ?_)
  ·go_simp
   have hba : Below wc.heap.size wc (wc.alloc (.cells #[.int .i64 0, .int .i64 0, .int .i64 0, .int .i64 1, .int .i64 3, .int .i64 8] 3)) := (Below.refl _ _).alloc (Nat.le_refl _) _
   have HBb : Hid (Blk wc.heap.size #[.int .i64 0, .int .i64 0, .int .i64 0, .int .i64 1, .int .i64 3, .int .i64 8] 3 (wc.alloc (.cells #[.int .i64 0, .int .i64 0, .int .i64 0, .int .i64 1, .int .i64 3, .int .i64 8] 3))) := Blk.alloc _ _ _
   have hB : w.heap.size < wc.heap.size := HZ.out.lt
   have hpc := HR.out.lt
   replace HR : Hid (RdS p (k0 + 6) (wc.alloc (.cells #[.int .i64 0, .int .i64 0, .int .i64 0, .int .i64 1, .int .i64 3, .int .i64 8] 3))) := HR.out.below hba hpc
   replace HB : Hid (Bt p w.heap.size w (wc.alloc (.cells #[.int .i64 0, .int .i64 0, .int .i64 0, .int .i64 1, .int .i64 3, .int .i64 8] 3))) := HB.out.trans (Bt.of_below (hba.mono HB.out.size))
   replace HZ : Hid (Blk w.heap.size #[.string ⟨#[]⟩, .int .i64 0, .string ⟨#[]⟩, .int .i64 0, .int .i64 0, .int .i64 0, .int .i64 0] 36 (wc.alloc (.cells #[.int .i64 0, .int .i64 0, .int .i64 0, .int .i64 1, .int .i64 3, .int .i64 8] 3))) := HZ.out.below hba HZ.out.lt
   replace HA : Hid (Blk bA #[.string ⟨#[]⟩, .string ⟨#[118, 111, 108]⟩, .string ⟨#[105, 112]⟩, .string ⟨#[118, 111, 108, 50]⟩] 9 (wc.alloc (.cells #[.int .i64 0, .int .i64 0, .int .i64 0, .int .i64 1, .int .i64 3, .int .i64 8] 3))) := HA.out.below hba HA.out.lt
   refine hK.out _ _ HA.out (fun hS => ?_)
   clear hK K hba hpc hS
   generalize wc.alloc (Obj.cells #[.int .i64 0, .int .i64 0, .int .i64 0, .int .i64 1, .int .i64 3, .int .i64 8] 3) = wn at *
   generalize wc.heap.size = bB at *
   refine wpAnyH_mono (S' := fun wy => Blk bA #[.string ⟨#[]⟩, .string ⟨#[118, 111, 108]⟩, .string ⟨#[105, 112]⟩, .string ⟨#[118, 111, 108, 50]⟩] 9 wy ∧ Blk bB #[.int .i64 0, .int .i64 0, .int .i64 0, .int .i64 1, .int .i64 3, .int .i64 8] 3 wy) (fun _ h => h.1) _ _ _ _ ?_
   have hS : (fun wy => Blk bA #[.string ⟨#[]⟩, .string ⟨#[118, 111, 108]⟩, .string ⟨#[105, 112]⟩, .string ⟨#[118, 111, 108, 50]⟩] 9 wy ∧ Blk bB #[.int .i64 0, .int .i64 0, .int .i64 0, .int .i64 1, .int .i64 3, .int .i64 8] 3 wy) wn := ⟨HA.out, HBb.out⟩
   obtain ⟨dd, hdx⟩ := diesAt v5 hv5
   refine ty 16 ⟨some 21, _, _, _, _, none⟩ (.pointer (some ⟨bB, v5, none⟩)) rfl (by rfl) ?_ hS ?_
   ·intro wy hy
    clear hy
    first | (go_simp; done) | (go_simp; omega) | (go_simp; intro hh; omega)
   simp only [pA, pB, pC, pD]
   refine ty 17 ⟨some 22, _, _, _, _, none⟩ (.int .i64 dd) rfl (by rfl) ?_ hS ?_
   ·intro wy hy
    have h := hy
    have h0 := h.2.cell (o := v5) (v := .int .i64 dd) hdx
    clear hy
    go_simp
   simp only [pA, pB, pC, pD]
   rw [← HZZ.out]
   exact st611.out _ _ _ _ _ _ _ _ _ _ _ hv1 hv2 hv3 hv4 hv5 hv6 hA HA hB HBb hhd HR HB HZ _ (by kernel_rfl)
 have st601 : Hid (∀ (v1 : Nat) (v2 : Nat) (v3 : Nat) (v4 : Nat) (v5 : Nat) (v6 : Nat) (bB : Nat) (dd : Int) (wc : World), (v1 : Int) < 3 → (v2 : Int) < 4 → (v3 : Int) < 4 → (v4 : Int) < 3 → (v5 : Int) < 6 → (v6 : Int) < 4 → w.heap.size < bB → Hid (Blk bB #[.int .i64 0, .int .i64 0, .int .i64 0, .int .i64 1, .int .i64 3, .int .i64 8] 3 wc) → Hid (RdS p (k0 + 6) wc) → Hid (Bt p w.heap.size w wc) → Hid (Blk w.heap.size #[.string ⟨#[]⟩, .int .i64 0, .string ⟨#[]⟩, .int .i64 0, .int .i64 0, .int .i64 0, .int .i64 0] 36 wc) → ∀ L, L = #[true, true, true, true, false, true, true, false, false, true, true, true, true, true, true, true, true, true, true, true, false, false] → Z (fun wy => Blk bB #[.int .i64 0, .int .i64 0, .int .i64 0, .int .i64 1, .int .i64 3, .int .i64 8] 3 wy) 5 L ⟨#[.pointer (some ⟨p, 0, none⟩), .string s, undef, undef, .pointer (some ⟨w.heap.size, 0, none⟩), .string s, .pointer (some ⟨p, 0, none⟩), .int .i64 (v1 : Int), .int .i64 (1 + (v1 : Int)), undef, .pointer (some ⟨p, 0, none⟩), .int .i64 (v2 : Int), undef, undef, .pointer (some ⟨p, 0, none⟩), .int .i64 (v3 : Int), .pointer (some ⟨p, 0, none⟩), .int .i64 (v4 : Int), .slice (some ⟨bB, 0, none⟩) 6 6, .pointer (some ⟨p, 0, none⟩), .int .i64 (v5 : Int), .pointer (some ⟨bB, v5, none⟩), .int .i64 dd, .pointer (some ⟨p, 0, none⟩), .int .i64 (v6 : Int), undef], []⟩ wc) := by
  intro v1 v2 v3 v4 v5 v6 bB dd wc hv1 hv2 hv3 hv4 hv5 hv6 hB HBb HR HB HZ L hL
  subst hL
  rw [HZZ.out]
  refine rd1 4 ⟨some 9, _, _, _, _, none⟩ rfl (fun K hK => ?_)
  ·go_simp
   have hba : Below wc.heap.size wc (wc.alloc (.cells #[.string ⟨#[]⟩, .string ⟨#[118, 111, 108]⟩, .string ⟨#[105, 112]⟩, .string ⟨#[118, 111, 108, 50]⟩] 9)) := (Below.refl _ _).alloc (Nat.le_refl _) _
   have HA : Hid (Blk wc.heap.size #[.string ⟨#[]⟩, .string ⟨#[118, 111, 108]⟩, .string ⟨#[105, 112]⟩, .string ⟨#[118, 111, 108, 50]⟩] 9 (wc.alloc (.cells #[.string ⟨#[]⟩, .string ⟨#[118, 111, 108]⟩, .string ⟨#[105, 112]⟩, .string ⟨#[118, 111, 108, 50]⟩] 9))) := Blk.alloc _ _ _
   have hA : w.heap.size < wc.heap.size := HZ.out.lt
   have hpc := HR.out.lt
   replace HR : Hid (RdS p (k0 + 6) (wc.alloc (.cells #[.string ⟨#[]⟩, .string ⟨#[118, 111, 108]⟩, .string ⟨#[105, 112]⟩, .string ⟨#[118, 111, 108, 50]⟩] 9))) := HR.out.below hba hpc
   replace HB : Hid (Bt p w.heap.size w (wc.alloc (.cells #[.string ⟨#[]⟩, .string ⟨#[118, 111, 108]⟩, .string ⟨#[105, 112]⟩, .string ⟨#[118, 111, 108, 50]⟩] 9))) := HB.out.trans (Bt.of_below (hba.mono HB.out.size))
   replace HZ : Hid (Blk w.heap.size #[.string ⟨#[]⟩, .int .i64 0, .string ⟨#[]⟩, .int .i64 0, .int .i64 0, .int .i64 0, .int .i64 0] 36 (wc.alloc (.cells #[.string ⟨#[]⟩, .string ⟨#[118, 111, 108]⟩, .string ⟨#[105, 112]⟩, .string ⟨#[118, 111, 108, 50]⟩] 9))) := HZ.out.below hba HZ.out.lt
   replace HBb : Hid (Blk bB #[.int .i64 0, .int .i64 0, .int .i64 0, .int .i64 1, .int .i64 3, .int .i64 8] 3 (wc.alloc (.cells #[.string ⟨#[]⟩, .string ⟨#[118, 111, 108]⟩, .string ⟨#[105, 112]⟩, .string ⟨#[118, 111, 108, 50]⟩] 9))) := HBb.out.below hba HBb.out.lt
   refine hK.out _ _ HBb.out (fun hS => ?_)
   clear hK K hba hpc hS
   generalize wc.alloc (Obj.cells #[.string ⟨#[]⟩, .string ⟨#[118, 111, 108]⟩, .string ⟨#[105, 112]⟩, .string ⟨#[118, 111, 108, 50]⟩] 9) = wn at *
   generalize wc.heap.size = bA at *
   refine wpAnyH_mono (S' := fun wy => Blk bA #[.string ⟨#[]⟩, .string ⟨#[118, 111, 108]⟩, .string ⟨#[105, 112]⟩, .string ⟨#[118, 111, 108, 50]⟩] 9 wy ∧ Blk bB #[.int .i64 0, .int .i64 0, .int .i64 0, .int .i64 1, .int .i64 3, .int .i64 8] 3 wy) (fun _ h => h.2) _ _ _ _ ?_
   have hS : (fun wy => Blk bA #[.string ⟨#[]⟩, .string ⟨#[118, 111, 108]⟩, .string ⟨#[105, 112]⟩, .string ⟨#[118, 111, 108, 50]⟩] 9 wy ∧ Blk bB #[.int .i64 0, .int .i64 0, .int .i64 0, .int .i64 1, .int .i64 3, .int .i64 8] 3 wy) wn := ⟨HA.out, HBb.out⟩
   obtain ⟨hd, hhx, hhd⟩ := holdAt v2 hv2
   refine ty 7 ⟨some 12, _, _, _, _, none⟩ (.pointer (some ⟨bA, v2, none⟩)) rfl (by rfl) ?_ hS ?_
   ·intro wy hy
    clear hy
    first | (go_simp; done) | (go_simp; omega) | (go_simp; intro hh; omega)
   simp only [pA, pB, pC, pD]
   refine ty 8 ⟨some 13, _, _, _, _, none⟩ (.string hd) rfl (by rfl) ?_ hS ?_
   ·intro wy hy
    have h := hy
    have h0 := h.1.cell (o := v2) (v := .string hd) hhx
    clear hy
    go_simp
   simp only [pA, pB, pC, pD]
   rw [← HZZ.out]
   exact st611.out _ _ _ _ _ _ _ _ _ _ _ hv1 hv2 hv3 hv4 hv5 hv6 hA HA hB HBb hhd HR HB HZ _ (by kernel_rfl)
 have st600 : Hid (∀ (v1 : Nat) (v2 : Nat) (v3 : Nat) (v4 : Nat) (v5 : Nat) (v6 : Nat) (wc : World), (v1 : Int) < 3 → (v2 : Int) < 4 → (v3 : Int) < 4 → (v4 : Int) < 3 → (v5 : Int) < 6 → (v6 : Int) < 4 → Hid (RdS p (k0 + 6) wc) → Hid (Bt p w.heap.size w wc) → Hid (Blk w.heap.size #[.string ⟨#[]⟩, .int .i64 0, .string ⟨#[]⟩, .int .i64 0, .int .i64 0, .int .i64 0, .int .i64 0] 36 wc) → ∀ L, L = #[true, true, true, true, false, true, true, false, false, true, true, true, true, false, true, true, false, false, true, true, false, false] → Z (fun _ => True) 8 L ⟨#[.pointer (some ⟨p, 0, none⟩), .string s, undef, undef, .pointer (some ⟨w.heap.size, 0, none⟩), .string s, .pointer (some ⟨p, 0, none⟩), .int .i64 (v1 : Int), .int .i64 (1 + (v1 : Int)), undef, .pointer (some ⟨p, 0, none⟩), .int .i64 (v2 : Int), undef, undef, .pointer (some ⟨p, 0, none⟩), .int .i64 (v3 : Int), .pointer (some ⟨p, 0, none⟩), .int .i64 (v4 : Int), undef, .pointer (some ⟨p, 0, none⟩), .int .i64 (v5 : Int), undef, undef, .pointer (some ⟨p, 0, none⟩), .int .i64 (v6 : Int), undef], []⟩ wc) := by
  intro v1 v2 v3 v4 v5 v6 wc hv1 hv2 hv3 hv4 hv5 hv6 HR HB HZ L hL
  subst hL
  rw [HZZ.out]
  refine wpAnyH_ready (rs := [4, 13]) (by kernel_rfl) (by simp) (AllReadyH.cons (o := ⟨some 9, _, _, _, _, none⟩) rfl (fun K hK => ?_) (AllReadyH.cons (o := ⟨some 18, _, _, _, _, none⟩) rfl (fun K hK => ?_) AllReadyH.nil))
  ·go_simp
   have hba : Below wc.heap.size wc (wc.alloc (.cells #[.string ⟨#[]⟩, .string ⟨#[118, 111, 108]⟩, .string ⟨#[105, 112]⟩, .string ⟨#[118, 111, 108, 50]⟩] 9)) := (Below.refl _ _).alloc (Nat.le_refl _) _
   have HA : Hid (Blk wc.heap.size #[.string ⟨#[]⟩, .string ⟨#[118, 111, 108]⟩, .string ⟨#[105, 112]⟩, .string ⟨#[118, 111, 108, 50]⟩] 9 (wc.alloc (.cells #[.string ⟨#[]⟩, .string ⟨#[118, 111, 108]⟩, .string ⟨#[105, 112]⟩, .string ⟨#[118, 111, 108, 50]⟩] 9))) := Blk.alloc _ _ _
   have hA : w.heap.size < wc.heap.size := HZ.out.lt
   have hpc := HR.out.lt
   replace HR : Hid (RdS p (k0 + 6) (wc.alloc (.cells #[.string ⟨#[]⟩, .string ⟨#[118, 111, 108]⟩, .string ⟨#[105, 112]⟩, .string ⟨#[118, 111, 108, 50]⟩] 9))) := HR.out.below hba hpc
   replace HB : Hid (Bt p w.heap.size w (wc.alloc (.cells #[.string ⟨#[]⟩, .string ⟨#[118, 111, 108]⟩, .string ⟨#[105, 112]⟩, .string ⟨#[118, 111, 108, 50]⟩] 9))) := HB.out.trans (Bt.of_below (hba.mono HB.out.size))
   replace HZ : Hid (Blk w.heap.size #[.string ⟨#[]⟩, .int .i64 0, .string ⟨#[]⟩, .int .i64 0, .int .i64 0, .int .i64 0, .int .i64 0] 36 (wc.alloc (.cells #[.string ⟨#[]⟩, .string ⟨#[118, 111, 108]⟩, .string ⟨#[105, 112]⟩, .string ⟨#[118, 111, 108, 50]⟩] 9))) := HZ.out.below hba HZ.out.lt
   refine hK.out _ _ trivial (fun hS => ?_)
   clear hK K hba hpc hS
   generalize wc.alloc (Obj.cells #[.string ⟨#[]⟩, .string ⟨#[118, 111, 108]⟩, .string ⟨#[105, 112]⟩, .string ⟨#[118, 111, 108, 50]⟩] 9) = wn at *
   generalize wc.heap.size = bA at *
   refine wpAnyH_mono (S' := fun wy => Blk bA #[.string ⟨#[]⟩, .string ⟨#[118, 111, 108]⟩, .string ⟨#[105, 112]⟩, .string ⟨#[118, 111, 108, 50]⟩] 9 wy) (fun _ h => trivial) _ _ _ _ ?_
   have hS : (fun wy => Blk bA #[.string ⟨#[]⟩, .string ⟨#[118, 111, 108]⟩, .string ⟨#[105, 112]⟩, .string ⟨#[118, 111, 108, 50]⟩] 9 wy) wn := HA.out
   obtain ⟨hd, hhx, hhd⟩ := holdAt v2 hv2
   refine ty 7 ⟨some 12, _, _, _, _, none⟩ (.pointer (some ⟨bA, v2, none⟩)) rfl (by rfl) ?_ hS ?_
   ·intro wy hy
    clear hy
    first | (go_simp; done) | (go_simp; omega) | (go_simp; intro hh; omega)
   simp only [pA, pB, pC, pD]
   refine ty 8 ⟨some 13, _, _, _, _, none⟩ (.string hd) rfl (by rfl) ?_ hS ?_
   ·intro wy hy
    have h := hy
    have h0 := h.cell (o := v2) (v := .string hd) hhx
    clear hy
    go_simp
   simp only [pA, pB, pC, pD]
   rw [← HZZ.out]
   exact st610.out _ _ _ _ _ _ _ _ _ hv1 hv2 hv3 hv4 hv5 hv6 hA HA hhd HR HB HZ _ (by kernel_rfl)
  ·go_simp
   have hba : Below wc.heap.size wc (wc.alloc (.cells #[.int .i64 0, .int .i64 0, .int .i64 0, .int .i64 1, .int .i64 3, .int .i64 8] 3)) := (Below.refl _ _).alloc (Nat.le_refl _) _
   have HBb : Hid (Blk wc.heap.size #[.int .i64 0, .int .i64 0, .int .i64 0, .int .i64 1, .int .i64 3, .int .i64 8] 3 (wc.alloc (.cells #[.int .i64 0, .int .i64 0, .int .i64 0, .int .i64 1, .int .i64 3, .int .i64 8] 3))) := Blk.alloc _ _ _
   have hB : w.heap.size < wc.heap.size := HZ.out.lt
   have hpc := HR.out.lt
   replace HR : Hid (RdS p (k0 + 6) (wc.alloc (.cells #[.int .i64 0, .int .i64 0, .int .i64 0, .int .i64 1, .int .i64 3, .int .i64 8] 3))) := HR.out.below hba hpc
   replace HB : Hid (Bt p w.heap.size w (wc.alloc (.cells #[.int .i64 0, .int .i64 0, .int .i64 0, .int .i64 1, .int .i64 3, .int .i64 8] 3))) := HB.out.trans (Bt.of_below (hba.mono HB.out.size))
   replace HZ : Hid (Blk w.heap.size #[.string ⟨#[]⟩, .int .i64 0, .string ⟨#[]⟩, .int .i64 0, .int .i64 0, .int .i64 0, .int .i64 0] 36 (wc.alloc (.cells #[.int .i64 0, .int .i64 0, .int .i64 0, .int .i64 1, .int .i64 3, .int .i64 8] 3))) := HZ.out.below hba HZ.out.lt
   refine hK.out _ _ trivial (fun hS => ?_)
   clear hK K hba hpc hS
   generalize wc.alloc (Obj.cells #[.int .i64 0, .int .i64 0, .int .i64 0, .int .i64 1, .int .i64 3, .int .i64 8] 3) = wn at *
   generalize wc.heap.size = bB at *
   refine wpAnyH_mono (S' := fun wy => Blk bB #[.int .i64 0, .int .i64 0, .int .i64 0, .int .i64 1, .int .i64 3, .int .i64 8] 3 wy) (fun _ h => trivial) _ _ _ _ ?_
   have hS : (fun wy => Blk bB #[.int .i64 0, .int .i64 0, .int .i64 0, .int .i64 1, .int .i64 3, .int .i64 8] 3 wy) wn := HBb.out
   obtain ⟨dd, hdx⟩ := diesAt v5 hv5
   refine ty 16 ⟨some 21, _, _, _, _, none⟩ (.pointer (some ⟨bB, v5, none⟩)) rfl (by rfl) ?_ hS ?_
   ·intro wy hy
    clear hy
    first | (go_simp; done) | (go_simp; omega) | (go_simp; intro hh; omega)
   simp only [pA, pB, pC, pD]
   refine ty 17 ⟨some 22, _, _, _, _, none⟩ (.int .i64 dd) rfl (by rfl) ?_ hS ?_
   ·intro wy hy
    have h := hy
    have h0 := h.cell (o := v5) (v := .int .i64 dd) hdx
    clear hy
    go_simp
   simp only [pA, pB, pC, pD]
   rw [← HZZ.out]
   exact st601.out _ _ _ _ _ _ _ _ _ hv1 hv2 hv3 hv4 hv5 hv6 hB HBb HR HB HZ _ (by kernel_rfl)
 have st511 : Hid (∀ (v1 : Nat) (v2 : Nat) (v3 : Nat) (v4 : Nat) (v5 : Nat) (bA : Nat) (bB : Nat) (hd : ByteArray) (dd : Int) (wc : World), (v1 : Int) < 3 → (v2 : Int) < 4 → (v3 : Int) < 4 → (v4 : Int) < 3 → (v5 : Int) < 6 → w.heap.size < bA → Hid (Blk bA #[.string ⟨#[]⟩, .string ⟨#[118, 111, 108]⟩, .string ⟨#[105, 112]⟩, .string ⟨#[118, 111, 108, 50]⟩] 9 wc) → w.heap.size < bB → Hid (Blk bB #[.int .i64 0, .int .i64 0, .int .i64 0, .int .i64 1, .int .i64 3, .int .i64 8] 3 wc) → hd.size ≤ 4 → Hid (RdS p (k0 + 5) wc) → Hid (Bt p w.heap.size w wc) → Hid (Blk w.heap.size #[.string ⟨#[]⟩, .int .i64 0, .string ⟨#[]⟩, .int .i64 0, .int .i64 0, .int .i64 0, .int .i64 0] 36 wc) → ∀ L, L = #[true, true, true, true, true, true, true, true, true, true, true, true, true, true, true, true, true, true, true, false, false, false] → Z (fun wy => Blk bA #[.string ⟨#[]⟩, .string ⟨#[118, 111, 108]⟩, .string ⟨#[105, 112]⟩, .string ⟨#[118, 111, 108, 50]⟩] 9 wy ∧ Blk bB #[.int .i64 0, .int .i64 0, .int .i64 0, .int .i64 1, .int .i64 3, .int .i64 8] 3 wy) 3 L ⟨#[.pointer (some ⟨p, 0, none⟩), .string s, undef, undef, .pointer (some ⟨w.heap.size, 0, none⟩), .string s, .pointer (some ⟨p, 0, none⟩), .int .i64 (v1 : Int), .int .i64 (1 + (v1 : Int)), .slice (some ⟨bA, 0, none⟩) 4 4, .pointer (some ⟨p, 0, none⟩), .int .i64 (v2 : Int), .pointer (some ⟨bA, v2, none⟩), .string hd, .pointer (some ⟨p, 0, none⟩), .int .i64 (v3 : Int), .pointer (some ⟨p, 0, none⟩), .int .i64 (v4 : Int), .slice (some ⟨bB, 0, none⟩) 6 6, .pointer (some ⟨p, 0, none⟩), .int .i64 (v5 : Int), .pointer (some ⟨bB, v5, none⟩), .int .i64 dd, .pointer (some ⟨p, 0, none⟩), undef, undef], []⟩ wc) := by
  intro v1 v2 v3 v4 v5 bA bB hd dd wc hv1 hv2 hv3 hv4 hv5 hA HA hB HBb hhd HR HB HZ L hL
  subst hL
  rw [HZZ.out]
  refine rd1 19 ⟨some 24, _, _, _, _, none⟩ rfl (fun K hK => ?_)
  ·go_simp
   refine (pick_rd p (k0 + 5) 4 _ HR.out (by omega) (by omega) (by omega)).mono ?_
   rintro e wn ⟨v6, rfl, hv6, hr, hb, hs⟩
   replace HR : Hid (RdS p (k0 + 6) wn) := hr
   replace HB : Hid (Bt p w.heap.size w wn) := HB.out.trans (hb.mono HB.out.size)
   replace HZ : Hid (Blk w.heap.size #[.string ⟨#[]⟩, .int .i64 0, .string ⟨#[]⟩, .int .i64 0, .int .i64 0, .int .i64 0, .int .i64 0] 36 wn) := HZ.out.bt hb HZ.out.lt (by omega)
   replace HA : Hid (Blk bA #[.string ⟨#[]⟩, .string ⟨#[118, 111, 108]⟩, .string ⟨#[105, 112]⟩, .string ⟨#[118, 111, 108, 50]⟩] 9 wn) := HA.out.bt hb HA.out.lt (by omega)
   replace HBb : Hid (Blk bB #[.int .i64 0, .int .i64 0, .int .i64 0, .int .i64 1, .int .i64 3, .int .i64 8] 3 wn) := HBb.out.bt hb HBb.out.lt (by omega)
   refine hK.out _ _ ⟨HA.out, HBb.out⟩ (fun hS => ?_)
   clear hK K hb hs hr
   rw [← HZZ.out]
   exact st611.out _ _ _ _ _ _ _ _ _ _ _ hv1 hv2 hv3 hv4 hv5 hv6 hA HA hB HBb hhd HR HB HZ _ (by kernel_rfl)
 have st510 : Hid (∀ (v1 : Nat) (v2 : Nat) (v3 : Nat) (v4 : Nat) (v5 : Nat) (bA : Nat) (hd : ByteArray) (wc : World), (v1 : Int) < 3 → (v2 : Int) < 4 → (v3 : Int) < 4 → (v4 : Int) < 3 → (v5 : Int) < 6 → w.heap.size < bA → Hid (Blk bA #[.string ⟨#[]⟩, .string ⟨#[118, 111, 108]⟩, .string ⟨#[105, 112]⟩, .string ⟨#[118, 111, 108, 50]⟩] 9 wc) → hd.size ≤ 4 → Hid (RdS p (k0 + 5) wc) → Hid (Bt p w.heap.size w wc) → Hid (Blk w.heap.size #[.string ⟨#[]⟩, .int .i64 0, .string ⟨#[]⟩, .int .i64 0, .int .i64 0, .int .i64 0, .int .i64 0] 36 wc) → ∀ L, L = #[true, true, true, true, true, true, true, true, true, true, true, true, true, false, true, true, false, false, true, false, false, false] → Z (fun wy => Blk bA #[.string ⟨#[]⟩, .string ⟨#[118, 111, 108]⟩, .string ⟨#[105, 112]⟩, .string ⟨#[118, 111, 108, 50]⟩] 9 wy) 6 L ⟨#[.pointer (some ⟨p, 0, none⟩), .string s, undef, undef, .pointer (some ⟨w.heap.size, 0, none⟩), .string s, .pointer (some ⟨p, 0, none⟩), .int .i64 (v1 : Int), .int .i64 (1 + (v1 : Int)), .slice (some ⟨bA, 0, none⟩) 4 4, .pointer (some ⟨p, 0, none⟩), .int .i64 (v2 : Int), .pointer (some ⟨bA, v2, none⟩), .string hd, .pointer (some ⟨p, 0, none⟩), .int .i64 (v3 : Int), .pointer (some ⟨p, 0, none⟩), .int .i64 (v4 : Int), undef, .pointer (some ⟨p, 0, none⟩), .int .i64 (v5 : Int), undef, undef, .pointer (some ⟨p, 0, none⟩), undef, undef], []⟩ wc) := by
  intro v1 v2 v3 v4 v5 bA hd wc hv1 hv2 hv3 hv4 hv5 hA HA hhd HR HB HZ L hL
  subst hL
  rw [HZZ.out]
  refine wpAnyH_ready (rs := [13, 19]) (by kernel_rfl) (by simp) (AllReadyH.cons (o := ⟨some 18, _, _, _, _, none⟩) rfl (fun K hK => ?_) (AllReadyH.cons (o := ⟨some 24, _, _, _, _, none⟩) rfl (fun K hK => ?_) AllReadyH.nil))
  ·go_simp
   have hba : Below wc.heap.size wc (wc.alloc (.cells #[.int .i64 0, .int .i64 0, .int .i64 0, .int .i64 1, .int .i64 3, .int .i64 8] 3)) := (Below.refl _ _).alloc (Nat.le_refl _) _
   have HBb : Hid (Blk wc.heap.size #[.int .i64 0, .int .i64 0, .int .i64 0, .int .i64 1, .int .i64 3, .int .i64 8] 3 (wc.alloc (.cells #[.int .i64 0, .int .i64 0, .int .i64 0, .int .i64 1, .int .i64 3, .int .i64 8] 3))) := Blk.alloc _ _ _
   have hB : w.heap.size < wc.heap.size := HZ.out.lt
   have hpc := HR.out.lt
   replace HR : Hid (RdS p (k0 + 5) (wc.alloc (.cells #[.int .i64 0, .int .i64 0, .int .i64 0, .int .i64 1, .int .i64 3, .int .i64 8] 3))) := HR.out.below hba hpc
   replace HB : Hid (Bt p w.heap.size w (wc.alloc (.cells #[.int .i64 0, .int .i64 0, .int .i64 0, .int .i64 1, .int .i64 3, .int .i64 8] 3))) := HB.out.trans (Bt.of_below (hba.mono HB.out.size))
   replace HZ : Hid (Blk w.heap.size #[.string ⟨#[]⟩, .int .i64 0, .string ⟨#[]⟩, .int .i64 0, .int .i64 0, .int .i64 0, .int .i64 0] 36 (wc.alloc (.cells #[.int .i64 0, .int .i64 0, .int .i64 0, .int .i64 1, .int .i64 3, .int .i64 8] 3))) := HZ.out.below hba HZ.out.lt
   replace HA : Hid (Blk bA #[.string ⟨#[]⟩, .string ⟨#[118, 111, 108]⟩, .string ⟨#[105, 112]⟩, .string ⟨#[118, 111, 108, 50]⟩] 9 (wc.alloc (.cells #[.int .i64 0, .int .i64 0, .int .i64 0, .int .i64 1, .int .i64 3, .int .i64 8] 3))) := HA.out.below hba HA.out.lt
   refine hK.out _ _ HA.out (fun hS => ?_)
   clear hK K hba hpc hS
   generalize wc.alloc (Obj.cells #[.int .i64 0, .int .i64 0, .int .i64 0, .int .i64 1, .int .i64 3, .int .i64 8] 3) = wn at *
   generalize wc.heap.size = bB at *
   refine wpAnyH_mono (S' := fun wy => Blk bA #[.string ⟨#[]⟩, .string ⟨#[118, 111, 108]⟩, .string ⟨#[105, 112]⟩, .string ⟨#[118, 111, 108, 50]⟩] 9 wy ∧ Blk bB #[.int .i64 0, .int .i64 0, .int .i64 0, .int .i64 1, .int .i64 3, .int .i64 8] 3 wy) (fun _ h => h.1) _ _ _ _ ?_
   have hS : (fun wy => Blk bA #[.string ⟨#[]⟩, .string ⟨#[118, 111, 108]⟩, .string ⟨#[105, 112]⟩, .string ⟨#[118, 111, 108, 50]⟩] 9 wy ∧ Blk bB #[.int .i64 0, .int .i64 0, .int .i64 0, .int .i64 1, .int .i64 3, .int .i64 8] 3 wy) wn := ⟨HA.out, HBb.out⟩
   obtain ⟨dd, hdx⟩ := diesAt v5 hv5
   refine ty 16 ⟨some 21, _, _, _, _, none⟩ (.pointer (some ⟨bB, v5, none⟩)) rfl (by rfl) ?_ hS ?_
   ·intro wy hy
    clear hy
    first | (go_simp; done) | (go_simp; omega) | (go_simp; intro hh; omega)
   simp only [pA, pB, pC, pD]
   refine ty 17 ⟨some 22, _, _, _, _, none⟩ (.int .i64 dd) rfl (by rfl) ?_ hS ?_
   ·intro wy hy
    have h := hy
    have h0 := h.2.cell (o := v5) (v := .int .i64 dd) hdx
    clear hy
    go_simp
   simp only [pA, pB, pC, pD]
   rw [← HZZ.out]
   exact st511.out _ _ _ _ _ _ _ _ _ _ hv1 hv2 hv3 hv4 hv5 hA HA hB HBb hhd HR HB HZ _ (by kernel_rfl)
  ·go_simp
   refine (pick_rd p (k0 + 5) 4 _ HR.out (by omega) (by omega) (by omega)).mono ?_
   rintro e wn ⟨v6, rfl, hv6, hr, hb, hs⟩
   replace HR : Hid (RdS p (k0 + 6) wn) := hr
   replace HB : Hid (Bt p w.heap.size w wn) := HB.out.trans (hb.mono HB.out.size)
   replace HZ : Hid (Blk w.heap.size #[.string ⟨#[]⟩, .int .i64 0, .string ⟨#[]⟩, .int .i64 0, .int .i64 0, .int .i64 0, .int .i64 0] 36 wn) := HZ.out.bt hb HZ.out.lt (by omega)
   replace HA : Hid (Blk bA #[.string ⟨#[]⟩, .string ⟨#[118, 111, 108]⟩, .string ⟨#[105, 112]⟩, .string ⟨#[118, 111, 108, 50]⟩] 9 wn) := HA.out.bt hb HA.out.lt (by omega)
   refine hK.out _ _ HA.out (fun hS => ?_)
   clear hK K hb hs hr
   rw [← HZZ.out]
   exact st610.out _ _ _ _ _ _ _ _ _ hv1 hv2 hv3 hv4 hv5 hv6 hA HA hhd HR HB HZ _ (by kernel_rfl)
 have st501 : Hid (∀ (v1 : Nat) (v2 : Nat) (v3 : Nat) (v4 : Nat) (v5 : Nat) (bB : Nat) (dd : Int) (wc : World), (v1 : Int) < 3 → (v2 : Int) < 4 → (v3 : Int) < 4 → (v4 : Int) < 3 → (v5 : Int) < 6 → w.heap.size < bB → Hid (Blk bB #[.int .i64 0, .int .i64 0, .int .i64 0, .int .i64 1, .int .i64 3, .int .i64 8] 3 wc) → Hid (RdS p (k0 + 5) wc) → Hid (Bt p w.heap.size w wc) → Hid (Blk w.heap.size #[.string ⟨#[]⟩, .int .i64 0, .string ⟨#[]⟩, .int .i64 0, .int .i64 0, .int .i64 0, .int .i64 0] 36 wc) → ∀ L, L = #[true, true, true, true, false, true, true, false, false, true, true, true, true, true, true, true, true, true, true, false, false, false] → Z (fun wy => Blk bB #[.int .i64 0, .int .i64 0, .int .i64 0, .int .i64 1, .int .i64 3, .int .i64 8] 3 wy) 6 L ⟨#[.pointer (some ⟨p, 0, none⟩), .string s, undef, undef, .pointer (some ⟨w.heap.size, 0, none⟩), .string s, .pointer (some ⟨p, 0, none⟩), .int .i64 (v1 : Int), .int .i64 (1 + (v1 : Int)), undef, .pointer (some ⟨p, 0, none⟩), .int .i64 (v2 : Int), undef, undef, .pointer (some ⟨p, 0, none⟩), .int .i64 (v3 : Int), .pointer (some ⟨p, 0, none⟩), .int .i64 (v4 : Int), .slice (some ⟨bB, 0, none⟩) 6 6, .pointer (some ⟨p, 0, none⟩), .int .i64 (v5 : Int), .pointer (some ⟨bB, v5, none⟩), .int .i64 dd, .pointer (some ⟨p, 0, none⟩), undef, undef], []⟩ wc) := by
  intro v1 v2 v3 v4 v5 bB dd wc hv1 hv2 hv3 hv4 hv5 hB HBb HR HB HZ L hL
  subst hL
  rw [HZZ.out]
  refine wpAnyH_ready (rs := [4, 19]) (by kernel_rfl) (by simp) (AllReadyH.cons (o := ⟨some 9, _, _, _, _, none⟩) rfl (fun K hK => ?_) (AllReadyH.cons (o := ⟨some 24, _, _, _, _, none⟩) rfl (fun K hK => ?_) AllReadyH.nil))
  ·go_simp
   have hba : Below wc.heap.size wc (wc.alloc (.cells #[.string ⟨#[]⟩, .string ⟨#[118, 111, 108]⟩, .string ⟨#[105, 112]⟩, .string ⟨#[118, 111, 108, 50]⟩] 9)) := (Below.refl _ _).alloc (Nat.le_refl _) _
   have HA : Hid (Blk wc.heap.size #[.string ⟨#[]⟩, .string ⟨#[118, 111, 108]⟩, .string ⟨#[105, 112]⟩, .string ⟨#[118, 111, 108, 50]⟩] 9 (wc.alloc (.cells #[.string ⟨#[]⟩, .string ⟨#[118, 111, 108]⟩, .string ⟨#[105, 112]⟩, .string ⟨#[118, 111, 108, 50]⟩] 9))) := Blk.alloc _ _ _
   have hA : w.heap.size < wc.heap.size := HZ.out.lt
   have hpc := HR.out.lt
   replace HR : Hid (RdS p (k0 + 5) (wc.alloc (.cells #[.string ⟨#[]⟩, .string ⟨#[118, 111, 108]⟩, .string ⟨#[105, 112]⟩, .string ⟨#[118, 111, 108, 50]⟩] 9))) := HR.out.below hba hpc
   replace HB : Hid (Bt p w.heap.size w (wc.alloc (.cells #[.string ⟨#[]⟩, .string ⟨#[118, 111, 108]⟩, .string ⟨#[105, 112]⟩, .string ⟨#[118, 111, 108, 50]⟩] 9))) := HB.out.trans (Bt.of_below (hba.mono HB.out.size))
   replace HZ : Hid (Blk w.heap.size #[.string ⟨#[]⟩, .int .i64 0, .string ⟨#[]⟩, .int .i64 0, .int .i64 0, .int .i64 0, .int .i64 0] 36 (wc.alloc (.cells #[.string ⟨#[]⟩, .string ⟨#[118, 111, 108]⟩, .string ⟨#[105, 112]⟩, .string ⟨#[118, 111, 108, 50]⟩] 9))) := HZ.out.below hba HZ.out.lt
   replace HBb : Hid (Blk bB #[.int .i64 0, .int .i64 0, .int .i64 0, .int .i64 1, .int .i64 3, .int .i64 8] 3 (wc.alloc (.cells #[.string ⟨#[]⟩, .string ⟨#[118, 111, 108]⟩, .string ⟨#[105, 112]⟩, .string ⟨#[118, 111, 108, 50]⟩] 9))) := HBb.out.below hba HBb.out.lt
   refine hK.out _ _ HBb.out (fun hS => ?_)
   clear hK K hba hpc hS
   generalize wc.alloc (Obj.cells #[.string ⟨#[]⟩, .string ⟨#[118, 111, 108]⟩, .string ⟨#[105, 112]⟩, .string ⟨#[118, 111, 108, 50]⟩] 9) = wn at *
   generalize wc.heap.size = bA at *
   refine wpAnyH_mono (S' := fun wy => Blk bA #[.string ⟨#[]⟩, .string ⟨#[118, 111, 108]⟩, .string ⟨#[105, 112]⟩, .string ⟨#[118, 111, 108, 50]⟩] 9 wy ∧ Blk bB #[.int .i64 0, .int .i64 0, .int .i64 0, .int .i64 1, .int .i64 3, .int .i64 8] 3 wy) (fun _ h => h.2) _ _ _ _ ?_
   have hS : (fun wy => Blk bA #[.string ⟨#[]⟩, .string ⟨#[118, 111, 108]⟩, .string ⟨#[105, 112]⟩, .string ⟨#[118, 111, 108, 50]⟩] 9 wy ∧ Blk bB #[.int .i64 0, .int .i64 0, .int .i64 0, .int .i64 1, .int .i64 3, .int .i64 8] 3 wy) wn := ⟨HA.out, HBb.out⟩
   obtain ⟨hd, hhx, hhd⟩ := holdAt v2 hv2
   refine ty 7 ⟨some 12, _, _, _, _, none⟩ (.pointer (some ⟨bA, v2, none⟩)) rfl (by rfl) ?_ hS ?_
   ·intro wy hy
    clear hy
    first | (go_simp; done) | (go_simp; omega) | (go_simp; intro hh; omega)
   simp only [pA, pB, pC, pD]
   refine ty 8 ⟨some 13, _, _, _, _, none⟩ (.string hd) rfl (by rfl) ?_ hS ?_
   ·intro wy hy
    have h := hy
    have h0 := h.1.cell (o := v2) (v := .string hd) hhx
    clear hy
    go_simp
   simp only [pA, pB, pC, pD]
   rw [← HZZ.out]
   exact st511.out _ _ _ _ _ _ _ _ _ _ hv1 hv2 hv3 hv4 hv5 hA HA hB HBb hhd HR HB HZ _ (by kernel_rfl)
  ·go_simp
   refine (pick_rd p (k0 + 5) 4 _ HR.out (by omega) (by omega) (by omega)).mono ?_
   rintro e wn ⟨v6, rfl, hv6, hr, hb, hs⟩
   replace HR : Hid (RdS p (k0 + 6) wn) := hr
   replace HB : Hid (Bt p w.heap.size w wn) := HB.out.trans (hb.mono HB.out.size)
   replace HZ : Hid (Blk w.heap.size #[.string ⟨#[]⟩, .int .i64 0, .string ⟨#[]⟩, .int .i64 0, .int .i64 0, .int .i64 0, .int .i64 0] 36 wn) := HZ.out.bt hb HZ.out.lt (by omega)
   replace HBb : Hid (Blk bB #[.int .i64 0, .int .i64 0, .int .i64 0, .int .i64 1, .int .i64 3, .int .i64 8] 3 wn) := HBb.out.bt hb HBb.out.lt (by omega)
   refine hK.out _ _ HBb.out (fun hS => ?_)
   clear hK K hb hs hr
   rw [← HZZ.out]
   exact st601.out _ _ _ _ _ _ _ _ _ hv1 hv2 hv3 hv4 hv5 hv6 hB HBb HR HB HZ _ (by kernel_rfl)
 have st500 : Hid (∀ (v1 : Nat) (v2 : Nat) (v3 : Nat) (v4 : Nat) (v5 : Nat) (wc : World), (v1 : Int) < 3 → (v2 : Int) < 4 → (v3 : Int) < 4 → (v4 : Int) < 3 → (v5 : Int) < 6 → Hid (RdS p (k0 + 5) wc) → Hid (Bt p w.heap.size w wc) → Hid (Blk w.heap.size #[.string ⟨#[]⟩, .int .i64 0, .string ⟨#[]⟩, .int .i64 0, .int .i64 0, .int .i64 0, .int .i64 0] 36 wc) → ∀ L, L = #[true, true, true, true, false, true, true, false, false, true, true, true, true, false, true, true, false, false, true, false, false, false] → Z (fun _ => True) 9 L ⟨#[.pointer (some ⟨p, 0, none⟩), .string s, undef, undef, .pointer (some ⟨w.heap.size, 0, none⟩), .string s, .pointer (some ⟨p, 0, none⟩), .int .i64 (v1 : Int), .int .i64 (1 + (v1 : Int)), undef, .pointer (some ⟨p, 0, none⟩), .int .i64 (v2 : Int), undef, undef, .pointer (some ⟨p, 0, none⟩), .int .i64 (v3 : Int), .pointer (some ⟨p, 0, none⟩), .int .i64 (v4 : Int), undef, .pointer (some ⟨p, 0, none⟩), .int .i64 (v5 : Int), undef, undef, .pointer (some ⟨p, 0, none⟩), undef, undef], []⟩ wc) := by
  intro v1 v2 v3 v4 v5 wc hv1 hv2 hv3 hv4 hv5 HR HB HZ L hL
  subst hL
  rw [HZZ.out]
  refine wpAnyH_ready (rs := [4, 13, 19]) (by kernel_rfl) (by simp) (AllReadyH.cons (o := ⟨some 9, _, _, _, _, none⟩) rfl (fun K hK => ?_) (AllReadyH.cons (o := ⟨some 18, _, _, _, _, none⟩) rfl (fun K hK => ?_) (AllReadyH.cons (o := ⟨some 24, _, _, _, _, none⟩) rfl (fun K hK => ?_) AllReadyH.nil)))
  ·go_simp
   have hba : Below wc.heap.size wc (wc.alloc (.cells #[.string ⟨#[]⟩, .string ⟨#[118, 111, 108]⟩, .string ⟨#[105, 112]⟩, .string ⟨#[118, 111, 108, 50]⟩] 9)) := (Below.refl _ _).alloc (Nat.le_refl _) _
   have HA : Hid (Blk wc.heap.size #[.string ⟨#[]⟩, .string ⟨#[118, 111, 108]⟩, .string ⟨#[105, 112]⟩, .string ⟨#[118, 111, 108, 50]⟩] 9 (wc.alloc (.cells #[.string ⟨#[]⟩, .string ⟨#[118, 111, 108]⟩, .string ⟨#[105, 112]⟩, .string ⟨#[118, 111, 108, 50]⟩] 9))) := Blk.alloc _ _ _
   have hA : w.heap.size < wc.heap.size := HZ.out.lt
   have hpc := HR.out.lt
   replace HR : Hid (RdS p (k0 + 5) (wc.alloc (.cells #[.string ⟨#[]⟩, .string ⟨#[118, 111, 108]⟩, .string ⟨#[105, 112]⟩, .string ⟨#[118, 111, 108, 50]⟩] 9))) := HR.out.below hba hpc
   replace HB : Hid (Bt p w.heap.size w (wc.alloc (.cells #[.string ⟨#[]⟩, .string ⟨#[118, 111, 108]⟩, .string ⟨#[105, 112]⟩, .string ⟨#[118, 111, 108, 50]⟩] 9))) := HB.out.trans (Bt.of_below (hba.mono HB.out.size))
   replace HZ : Hid (Blk w.heap.size #[.string ⟨#[]⟩, .int .i64 0, .string ⟨#[]⟩, .int .i64 0, .int .i64 0, .int .i64 0, .int .i64 0] 36 (wc.alloc (.cells #[.string ⟨#[]⟩, .string ⟨#[118, 111, 108]⟩, .string ⟨#[105, 112]⟩, .string ⟨#[118, 111, 108, 50]⟩] 9))) := HZ.out.below hba HZ.out.lt
   refine hK.out _ _ trivial (fun hS => ?_)
   clear hK K hba hpc hS
   generalize wc.alloc (Obj.cells #[.string ⟨#[]⟩, .string ⟨#[118, 111, 108]⟩, .string ⟨#[105, 112]⟩, .string ⟨#[118, 111, 108, 50]⟩] 9) = wn at *
   generalize wc.heap.size = bA at *
   refine wpAnyH_mono (S' := fun wy => Blk bA #[.string ⟨#[]⟩, .string ⟨#[118, 111, 108]⟩, .string ⟨#[105, 112]⟩, .string ⟨#[118, 111, 108, 50]⟩] 9 wy) (fun _ h => trivial) _ _ _ _ ?_
   have hS : (fun wy => Blk bA #[.string ⟨#[]⟩, .string ⟨#[118, 111, 108]⟩, .string ⟨#[105, 112]⟩, .string ⟨#[118, 111, 108, 50]⟩] 9 wy) wn := HA.out
   obtain ⟨hd, hhx, hhd⟩ := holdAt v2 hv2
   refine ty 7 ⟨some 12, _, _, _, _, none⟩ (.pointer (some ⟨bA, v2, none⟩)) rfl (by rfl) ?_ hS ?_
   ·intro wy hy
    clear hy
    first | (go_simp; done) | (go_simp; omega) | (go_simp; intro hh; omega)
   simp only [pA, pB, pC, pD]
   refine ty 8 ⟨some 13, _, _, _, _, none⟩ (.string hd) rfl (by rfl) ?_ hS ?_
   ·intro wy hy
    have h := hy
    have h0 := h.cell (o := v2) (v := .string hd) hhx
    clear hy
    go_simp
   simp only [pA, pB, pC, pD]
   rw [← HZZ.out]
   exact st510.out _ _ _ _ _ _ _ _ hv1 hv2 hv3 hv4 hv5 hA HA hhd HR HB HZ _ (by kernel_rfl)
  ·go_simp
   have hba : Below wc.heap.size wc (wc.alloc (.cells #[.int .i64 0, .int .i64 0, .int .i64 0, .int .i64 1, .int .i64 3, .int .i64 8] 3)) := (Below.refl _ _).alloc (Nat.le_refl _) _
   have HBb : Hid (Blk wc.heap.size #[.int .i64 0, .int .i64 0, .int .i64 0, .int .i64 1, .int .i64 3, .int .i64 8] 3 (wc.alloc (.cells #[.int .i64 0, .int .i64 0, .int .i64 0, .int .i64 1, .int .i64 3, .int .i64 8] 3))) := Blk.alloc _ _ _
   have hB : w.heap.size < wc.heap.size := HZ.out.lt
   have hpc := HR.out.lt
   replace HR : Hid (RdS p (k0 + 5) (wc.alloc (.cells #[.int .i64 0, .int .i64 0, .int .i64 0, .int .i64 1, .int .i64 3, .int .i64 8] 3))) := HR.out.below hba hpc
   replace HB : Hid (Bt p w.heap.size w (wc.alloc (.cells #[.int .i64 0, .int .i64 0, .int .i64 0, .int .i64 1, .int .i64 3, .int .i64 8] 3))) := HB.out.trans (Bt.of_below (hba.mono HB.out.size))
   replace HZ : Hid (Blk w.heap.size #[.string ⟨#[]⟩, .int .i64 0, .string ⟨#[]⟩, .int .i64 0, .int .i64 0, .int .i64 0, .int .i64 0] 36 (wc.alloc (.cells #[.int .i64 0, .int .i64 0, .int .i64 0, .int .i64 1, .int .i64 3, .int .i64 8] 3))) := HZ.out.below hba HZ.out.lt
   refine hK.out _ _ trivial (fun hS => ?_)
   clear hK K hba hpc hS
   generalize wc.alloc (Obj.cells #[.int .i64 0, .int .i64 0, .int .i64 0, .int .i64 1, .int .i64 3, .int .i64 8] 3) = wn at *
   generalize wc.heap.size = bB at *
   refine wpAnyH_mono (S' := fun wy => Blk bB #[.int .i64 0, .int .i64 0, .int .i64 0, .int .i64 1, .int .i64 3, .int .i64 8] 3 wy) (fun _ h => trivial) _ _ _ _ ?_
   have hS : (fun wy => Blk bB #[.int .i64 0, .int .i64 0, .int .i64 0, .int .i64 1, .int .i64 3, .int .i64 8] 3 wy) wn := HBb.out
   obtain ⟨dd, hdx⟩ := diesAt v5 hv5
   refine ty 16 ⟨some 21, _, _, _, _, none⟩ (.pointer (some ⟨bB, v5, none⟩)) rfl (by rfl) ?_ hS ?_
   ·intro wy hy
    clear hy
    first | (go_simp; done) | (go_simp; omega) | (go_simp; intro hh; omega)
   simp only [pA, pB, pC, pD]
   refine ty 17 ⟨some 22, _, _, _, _, none⟩ (.int .i64 dd) rfl (by rfl) ?_ hS ?_
   ·intro wy hy
    have h := hy
    have h0 := h.cell (o := v5) (v := .int .i64 dd) hdx
    clear hy
    go_simp
   simp only [pA, pB, pC, pD]
   rw [← HZZ.out]
   exact st501.out _ _ _ _ _ _ _ _ hv1 hv2 hv3 hv4 hv5 hB HBb HR HB HZ _ (by kernel_rfl)
  ·go_simp
   refine (pick_rd p (k0 + 5) 4 _ HR.out (by omega) (by omega) (by omega)).mono ?_
   rintro e wn ⟨v6, rfl, hv6, hr, hb, hs⟩
   replace HR : Hid (RdS p (k0 + 6) wn) := hr
   replace HB : Hid (Bt p w.heap.size w wn) := HB.out.trans (hb.mono HB.out.size)
   replace HZ : Hid (Blk w.heap.size #[.string ⟨#[]⟩, .int .i64 0, .string ⟨#[]⟩, .int .i64 0, .int .i64 0, .int .i64 0, .int .i64 0] 36 wn) := HZ.out.bt hb HZ.out.lt (by omega)
   refine hK.out _ _ trivial (fun hS => ?_)
   clear hK K hb hs hr
   rw [← HZZ.out]
   exact st600.out _ _ _ _ _ _ _ hv1 hv2 hv3 hv4 hv5 hv6 HR HB HZ _ (by kernel_rfl)
 have st411 : Hid (∀ (v1 : Nat) (v2 : Nat) (v3 : Nat) (v4 : Nat) (bA : Nat) (bB : Nat) (hd : ByteArray) (wc : World), (v1 : Int) < 3 → (v2 : Int) < 4 → (v3 : Int) < 4 → (v4 : Int) < 3 → w.heap.size < bA → Hid (Blk bA #[.string ⟨#[]⟩, .string ⟨#[118, 111, 108]⟩, .string ⟨#[105, 112]⟩, .string ⟨#[118, 111, 108, 50]⟩] 9 wc) → w.heap.size < bB → Hid (Blk bB #[.int .i64 0, .int .i64 0, .int .i64 0, .int .i64 1, .int .i64 3, .int .i64 8] 3 wc) → hd.size ≤ 4 → Hid (RdS p (k0 + 4) wc) → Hid (Bt p w.heap.size w wc) → Hid (Blk w.heap.size #[.string ⟨#[]⟩, .int .i64 0, .string ⟨#[]⟩, .int .i64 0, .int .i64 0, .int .i64 0, .int .i64 0] 36 wc) → ∀ L, L = #[true, true, true, true, true, true, true, true, true, true, true, true, true, true, true, false, false, false, true, false, false, false] → Z (fun wy => Blk bA #[.string ⟨#[]⟩, .string ⟨#[118, 111, 108]⟩, .string ⟨#[105, 112]⟩, .string ⟨#[118, 111, 108, 50]⟩] 9 wy ∧ Blk bB #[.int .i64 0, .int .i64 0, .int .i64 0, .int .i64 1, .int .i64 3, .int .i64 8] 3 wy) 6 L ⟨#[.pointer (some ⟨p, 0, none⟩), .string s, undef, undef, .pointer (some ⟨w.heap.size, 0, none⟩), .string s, .pointer (some ⟨p, 0, none⟩), .int .i64 (v1 : Int), .int .i64 (1 + (v1 : Int)), .slice (some ⟨bA, 0, none⟩) 4 4, .pointer (some ⟨p, 0, none⟩), .int .i64 (v2 : Int), .pointer (some ⟨bA, v2, none⟩), .string hd, .pointer (some ⟨p, 0, none⟩), .int .i64 (v3 : Int), .pointer (some ⟨p, 0, none⟩), .int .i64 (v4 : Int), .slice (some ⟨bB, 0, none⟩) 6 6, .pointer (some ⟨p, 0, none⟩), undef, undef, undef, .pointer (some ⟨p, 0, none⟩), undef, undef], []⟩ wc) := by
  intro v1 v2 v3 v4 bA bB hd wc hv1 hv2 hv3 hv4 hA HA hB HBb hhd HR HB HZ L hL
  subst hL
  rw [HZZ.out]
  refine rd1 15 ⟨some 20, _, _, _, _, none⟩ rfl (fun K hK => ?_)
  ·go_simp
   refine (pick_rd p (k0 + 4) 6 _ HR.out (by omega) (by omega) (by omega)).mono ?_
   rintro e wn ⟨v5, rfl, hv5, hr, hb, hs⟩
   replace HR : Hid (RdS p (k0 + 5) wn) := hr
   replace HB : Hid (Bt p w.heap.size w wn) := HB.out.trans (hb.mono HB.out.size)
   replace HZ : Hid (Blk w.heap.size #[.string ⟨#[]⟩, .int .i64 0, .string ⟨#[]⟩, .int .i64 0, .int .i64 0, .int .i64 0, .int .i64 0] 36 wn) := HZ.out.bt hb HZ.out.lt (by omega)
   replace HA : Hid (Blk bA #[.string ⟨#[]⟩, .string ⟨#[118, 111, 108]⟩, .string ⟨#[105, 112]⟩, .string ⟨#[118, 111, 108, 50]⟩] 9 wn) := HA.out.bt hb HA.out.lt (by omega)
   replace HBb : Hid (Blk bB #[.int .i64 0, .int .i64 0, .int .i64 0, .int .i64 1, .int .i64 3, .int .i64 8] 3 wn) := HBb.out.bt hb HBb.out.lt (by omega)
   refine hK.out _ _ ⟨HA.out, HBb.out⟩ (fun hS => ?_)
   clear hK K hb hs hr
   obtain ⟨dd, hdx⟩ := diesAt v5 hv5
   refine ty 16 ⟨some 21, _, _, _, _, none⟩ (.pointer (some ⟨bB, v5, none⟩)) rfl (by rfl) ?_ hS ?_
   ·intro wy hy
    clear hy
    first | (go_simp; done) | (go_simp; omega) | (go_simp; intro hh; omega)
   simp only [pA, pB, pC, pD]
   refine ty 17 ⟨some 22, _, _, _, _, none⟩ (.int .i64 dd) rfl (by rfl) ?_ hS ?_
   ·intro wy hy
    have h := hy
    have h0 := h.2.cell (o := v5) (v := .int .i64 dd) hdx
    clear hy
    go_simp
   simp only [pA, pB, pC, pD]
   rw [← HZZ.out]
   exact st511.out _ _ _ _ _ _ _ _ _ _ hv1 hv2 hv3 hv4 hv5 hA HA hB HBb hhd HR HB HZ _ (by kernel_rfl)
 have st410 : Hid (∀ (v1 : Nat) (v2 : Nat) (v3 : Nat) (v4 : Nat) (bA : Nat) (hd : ByteArray) (wc : World), (v1 : Int) < 3 → (v2 : Int) < 4 → (v3 : Int) < 4 → (v4 : Int) < 3 → w.heap.size < bA → Hid (Blk bA #[.string ⟨#[]⟩, .string ⟨#[118, 111, 108]⟩, .string ⟨#[105, 112]⟩, .string ⟨#[118, 111, 108, 50]⟩] 9 wc) → hd.size ≤ 4 → Hid (RdS p (k0 + 4) wc) → Hid (Bt p w.heap.size w wc) → Hid (Blk w.heap.size #[.string ⟨#[]⟩, .int .i64 0, .string ⟨#[]⟩, .int .i64 0, .int .i64 0, .int .i64 0, .int .i64 0] 36 wc) → ∀ L, L = #[true, true, true, true, true, true, true, true, true, true, true, true, true, false, true, false, false, false, true, false, false, false] → Z (fun wy => Blk bA #[.string ⟨#[]⟩, .string ⟨#[118, 111, 108]⟩, .string ⟨#[105, 112]⟩, .string ⟨#[118, 111, 108, 50]⟩] 9 wy) 7 L ⟨#[.pointer (some ⟨p, 0, none⟩), .string s, undef, undef, .pointer (some ⟨w.heap.size, 0, none⟩), .string s, .pointer (some ⟨p, 0, none⟩), .int .i64 (v1 : Int), .int .i64 (1 + (v1 : Int)), .slice (some ⟨bA, 0, none⟩) 4 4, .pointer (some ⟨p, 0, none⟩), .int .i64 (v2 : Int), .pointer (some ⟨bA, v2, none⟩), .string hd, .pointer (some ⟨p, 0, none⟩), .int .i64 (v3 : Int), .pointer (some ⟨p, 0, none⟩), .int .i64 (v4 : Int), undef, .pointer (some ⟨p, 0, none⟩), undef, undef, undef, .pointer (some ⟨p, 0, none⟩), undef, undef], []⟩ wc) := by
  intro v1 v2 v3 v4 bA hd wc hv1 hv2 hv3 hv4 hA HA hhd HR HB HZ L hL
  subst hL
  rw [HZZ.out]
  refine wpAnyH_ready (rs := [13, 15]) (by kernel_rfl) (by simp) (AllReadyH.cons (o := ⟨some 18, _, _, _, _, none⟩) rfl (fun K hK => ?_) (AllReadyH.cons (o := ⟨some 20, _, _, _, _, none⟩) rfl (fun K hK => ?_) AllReadyH.nil))
  ·go_simp
   have hba : Below wc.heap.size wc (wc.alloc (.cells #[.int .i64 0, .int .i64 0, .int .i64 0, .int .i64 1, .int .i64 3, .int .i64 8] 3)) := (Below.refl _ _).alloc (Nat.le_refl _) _
   have HBb : Hid (Blk wc.heap.size #[.int .i64 0, .int .i64 0, .int .i64 0, .int .i64 1, .int .i64 3, .int .i64 8] 3 (wc.alloc (.cells #[.int .i64 0, .int .i64 0, .int .i64 0, .int .i64 1, .int .i64 3, .int .i64 8] 3))) := Blk.alloc _ _ _
   have hB : w.heap.size < wc.heap.size := HZ.out.lt
   have hpc := HR.out.lt
   replace HR : Hid (RdS p (k0 + 4) (wc.alloc (.cells #[.int .i64 0, .int .i64 0, .int .i64 0, .int .i64 1, .int .i64 3, .int .i64 8] 3))) := HR.out.below hba hpc
   replace HB : Hid (Bt p w.heap.size w (wc.alloc (.cells #[.int .i64 0, .int .i64 0, .int .i64 0, .int .i64 1, .int .i64 3, .int .i64 8] 3))) := HB.out.trans (Bt.of_below (hba.mono HB.out.size))
   replace HZ : Hid (Blk w.heap.size #[.string ⟨#[]⟩, .int .i64 0, .string ⟨#[]⟩, .int .i64 0, .int .i64 0, .int .i64 0, .int .i64 0] 36 (wc.alloc (.cells #[.int .i64 0, .int .i64 0, .int .i64 0, .int .i64 1, .int .i64 3, .int .i64 8] 3))) := HZ.out.below hba HZ.out.lt
   replace HA : Hid (Blk bA #[.string ⟨#[]⟩, .string ⟨#[118, 111, 108]⟩, .string ⟨#[105, 112]⟩, .string ⟨#[118, 111, 108, 50]⟩] 9 (wc.alloc (.cells #[.int .i64 0, .int .i64 0, .int .i64 0, .int .i64 1, .int .i64 3, .int .i64 8] 3))) := HA.out.below hba HA.out.lt
   refine hK.out _ _ HA.out (fun hS => ?_)
   clear hK K hba hpc hS
   generalize wc.alloc (Obj.cells #[.int .i64 0, .int .i64 0, .int .i64 0, .int .i64 1, .int .i64 3, .int .i64 8] 3) = wn at *
   generalize wc.heap.size = bB at *
   refine wpAnyH_mono (S' := fun wy => Blk bA #[.string ⟨#[]⟩, .string ⟨#[118, 111, 108]⟩, .string ⟨#[105, 112]⟩, .string ⟨#[118, 111, 108, 50]⟩] 9 wy ∧ Blk bB #[.int .i64 0, .int .i64 0, .int .i64 0, .int .i64 1, .int .i64 3, .int .i64 8] 3 wy) (fun _ h => h.1) _ _ _ _ ?_
   have hS : (fun wy => Blk bA #[.string ⟨#[]⟩, .string ⟨#[118, 111, 108]⟩, .string ⟨#[105, 112]⟩, .string ⟨#[118, 111, 108, 50]⟩] 9 wy ∧ Blk bB #[.int .i64 0, .int .i64 0, .int .i64 0, .int .i64 1, .int .i64 3, .int .i64 8] 3 wy) wn := ⟨HA.out, HBb.out⟩
   rw [← HZZ.out]
   exact st411.out _ _ _ _ _ _ _ _ hv1 hv2 hv3 hv4 hA HA hB HBb hhd HR HB HZ _ (by kernel_rfl)
  ·go_simp
   refine (pick_rd p (k0 + 4) 6 _ HR.out (by omega) (by omega) (by omega)).mono ?_
   rintro e wn ⟨v5, rfl, hv5, hr, hb, hs⟩
   replace HR : Hid (RdS p (k0 + 5) wn) := hr
   replace HB : Hid (Bt p w.heap.size w wn) := HB.out.trans (hb.mono HB.out.size)
   replace HZ : Hid (Blk w.heap.size #[.string ⟨#[]⟩, .int .i64 0, .string ⟨#[]⟩, .int .i64 0, .int .i64 0, .int .i64 0, .int .i64 0] 36 wn) := HZ.out.bt hb HZ.out.lt (by omega)
   replace HA : Hid (Blk bA #[.string ⟨#[]⟩, .string ⟨#[118, 111, 108]⟩, .string ⟨#[105, 112]⟩, .string ⟨#[118, 111, 108, 50]⟩] 9 wn) := HA.out.bt hb HA.out.lt (by omega)
   refine hK.out _ _ HA.out (fun hS => ?_)
   clear hK K hb hs hr
   rw [← HZZ.out]
   exact st510.out _ _ _ _ _ _ _ _ hv1 hv2 hv3 hv4 hv5 hA HA hhd HR HB HZ _ (by kernel_rfl)
 have st401 : Hid (∀ (v1 : Nat) (v2 : Nat) (v3 : Nat) (v4 : Nat) (bB : Nat) (wc : World), (v1 : Int) < 3 → (v2 : Int) < 4 → (v3 : Int) < 4 → (v4 : Int) < 3 → w.heap.size < bB → Hid (Blk bB #[.int .i64 0, .int .i64 0, .int .i64 0, .int .i64 1, .int .i64 3, .int .i64 8] 3 wc) → Hid (RdS p (k0 + 4) wc) → Hid (Bt p w.heap.size w wc) → Hid (Blk w.heap.size #[.string ⟨#[]⟩, .int .i64 0, .string ⟨#[]⟩, .int .i64 0, .int .i64 0, .int .i64 0, .int .i64 0] 36 wc) → ∀ L, L = #[true, true, true, true, false, true, true, false, false, true, true, true, true, true, true, false, false, false, true, false, false, false] → Z (fun wy => Blk bB #[.int .i64 0, .int .i64 0, .int .i64 0, .int .i64 1, .int .i64 3, .int .i64 8] 3 wy) 9 L ⟨#[.pointer (some ⟨p, 0, none⟩), .string s, undef, undef, .pointer (some ⟨w.heap.size, 0, none⟩), .string s, .pointer (some ⟨p, 0, none⟩), .int .i64 (v1 : Int), .int .i64 (1 + (v1 : Int)), undef, .pointer (some ⟨p, 0, none⟩), .int .i64 (v2 : Int), undef, undef, .pointer (some ⟨p, 0, none⟩), .int .i64 (v3 : Int), .pointer (some ⟨p, 0, none⟩), .int .i64 (v4 : Int), .slice (some ⟨bB, 0, none⟩) 6 6, .pointer (some ⟨p, 0, none⟩), undef, undef, undef, .pointer (some ⟨p, 0, none⟩), undef, undef], []⟩ wc) := by
  intro v1 v2 v3 v4 bB wc hv1 hv2 hv3 hv4 hB HBb HR HB HZ L hL
  subst hL
  rw [HZZ.out]
  refine wpAnyH_ready (rs := [4, 15]) (by kernel_rfl) (by simp) (AllReadyH.cons (o := ⟨some 9, _, _, _, _, none⟩) rfl (fun K hK => ?_) (AllReadyH.cons (o := ⟨some 20, _, _, _, _, none⟩) rfl (fun K hK => ?_) AllReadyH.nil))
  ·go_simp
   have hba : Below wc.heap.size wc (wc.alloc (.cells #[.string ⟨#[]⟩, .string ⟨#[118, 111, 108]⟩, .string ⟨#[105, 112]⟩, .string ⟨#[118, 111, 108, 50]⟩] 9)) := (Below.refl _ _).alloc (Nat.le_refl _) _
   have HA : Hid (Blk wc.heap.size #[.string ⟨#[]⟩, .string ⟨#[118, 111, 108]⟩, .string ⟨#[105, 112]⟩, .string ⟨#[118, 111, 108, 50]⟩] 9 (wc.alloc (.cells #[.string ⟨#[]⟩, .string ⟨#[118, 111, 108]⟩, .string ⟨#[105, 112]⟩, .string ⟨#[118, 111, 108, 50]⟩] 9))) := Blk.alloc _ _ _
   have hA : w.heap.size < wc.heap.size := HZ.out.lt
   have hpc := HR.out.lt
   replace HR : Hid (RdS p (k0 + 4) (wc.alloc (.cells #[.string ⟨#[]⟩, .string ⟨#[118, 111, 108]⟩, .string ⟨#[105, 112]⟩, .string ⟨#[118, 111, 108, 50]⟩] 9))) := HR.out.below hba hpc
   replace HB : Hid (Bt p w.heap.size w (wc.alloc (.cells #[.string ⟨#[]⟩, .string ⟨#[118, 111, 108]⟩, .string ⟨#[105, 112]⟩, .string ⟨#[118, 111, 108, 50]⟩] 9))) := HB.out.trans (Bt.of_below (hba.mono HB.out.size))
   replace HZ : Hid (Blk w.heap.size #[.string ⟨#[]⟩, .int .i64 0, .string ⟨#[]⟩, .int .i64 0, .int .i64 0, .int .i64 0, .int .i64 0] 36 (wc.alloc (.cells #[.string ⟨#[]⟩, .string ⟨#[118, 111, 108]⟩, .string ⟨#[105, 112]⟩, .string ⟨#[118, 111, 108, 50]⟩] 9))) := HZ.out.below hba HZ.out.lt
   replace HBb : Hid (Blk bB #[.int .i64 0, .int .i64 0, .int .i64 0, .int .i64 1, .int .i64 3, .int .i64 8] 3 (wc.alloc (.cells #[.string ⟨#[]⟩, .string ⟨#[118, 111, 108]⟩, .string ⟨#[105, 112]⟩, .string ⟨#[118, 111, 108, 50]⟩] 9))) := HBb.out.below hba HBb.out.lt
   refine hK.out _ _ HBb.out (fun hS => ?_)
   clear hK K hba hpc hS
   generalize wc.alloc (Obj.cells #[.string ⟨#[]⟩, .string ⟨#[118, 111, 108]⟩, .string ⟨#[105, 112]⟩, .string ⟨#[118, 111, 108, 50]⟩] 9) = wn at *
   generalize wc.heap.size = bA at *
   refine wpAnyH_mono (S' := fun wy => Blk bA #[.string ⟨#[]⟩, .string ⟨#[118, 111, 108]⟩, .string ⟨#[105, 112]⟩, .string ⟨#[118, 111, 108, 50]⟩] 9 wy ∧ Blk bB #[.int .i64 0, .int .i64 0, .int .i64 0, .int .i64 1, .int .i64 3, .int .i64 8] 3 wy) (fun _ h => h.2) _ _ _ _ ?_
   have hS : (fun wy => Blk bA #[.string ⟨#[]⟩, .string ⟨#[118, 111, 108]⟩, .string ⟨#[105, 112]⟩, .string ⟨#[118, 111, 108, 50]⟩] 9 wy ∧ Blk bB #[.int .i64 0, .int .i64 0, .int .i64 0, .int .i64 1, .int .i64 3, .int .i64 8] 3 wy) wn := ⟨HA.out, HBb.out⟩
   obtain ⟨hd, hhx, hhd⟩ := holdAt v2 hv2
   refine ty 7 ⟨some 12, _, _, _, _, none⟩ (.pointer (some ⟨bA, v2, none⟩)) rfl (by rfl) ?_ hS ?_
   ·intro wy hy
    clear hy
    first | (go_simp; done) | (go_simp; omega) | (go_simp; intro hh; omega)
   simp only [pA, pB, pC, pD]
   refine ty 8 ⟨some 13, _, _, _, _, none⟩ (.string hd) rfl (by rfl) ?_ hS ?_
   ·intro wy hy
    have h := hy
    have h0 := h.1.cell (o := v2) (v := .string hd) hhx
    clear hy
    go_simp
   simp only [pA, pB, pC, pD]
   rw [← HZZ.out]
   exact st411.out _ _ _ _ _ _ _ _ hv1 hv2 hv3 hv4 hA HA hB HBb hhd HR HB HZ _ (by kernel_rfl)
  ·go_simp
   refine (pick_rd p (k0 + 4) 6 _ HR.out (by omega) (by omega) (by omega)).mono ?_
   rintro e wn ⟨v5, rfl, hv5, hr, hb, hs⟩
   replace HR : Hid (RdS p (k0 + 5) wn) := hr
   replace HB : Hid (Bt p w.heap.size w wn) := HB.out.trans (hb.mono HB.out.size)
   replace HZ : Hid (Blk w.heap.size #[.string ⟨#[]⟩, .int .i64 0, .string ⟨#[]⟩, .int .i64 0, .int .i64 0, .int .i64 0, .int .i64 0] 36 wn) := HZ.out.bt hb HZ.out.lt (by omega)
   replace HBb : Hid (Blk bB #[.int .i64 0, .int .i64 0, .int .i64 0, .int .i64 1, .int .i64 3, .int .i64 8] 3 wn) := HBb.out.bt hb HBb.out.lt (by omega)
   refine hK.out _ _ HBb.out (fun hS => ?_)
   clear hK K hb hs hr
   obtain ⟨dd, hdx⟩ := diesAt v5 hv5
   refine ty 16 ⟨some 21, _, _, _, _, none⟩ (.pointer (some ⟨bB, v5, none⟩)) rfl (by rfl) ?_ hS ?_
   ·intro wy hy
    clear hy
    first | (go_simp; done) | (go_simp; omega) | (go_simp; intro hh; omega)
   simp only [pA, pB, pC, pD]
   refine ty 17 ⟨some 22, _, _, _, _, none⟩ (.int .i64 dd) rfl (by rfl) ?_ hS ?_
   ·intro wy hy
    have h := hy
    have h0 := h.cell (o := v5) (v := .int .i64 dd) hdx
    clear hy
    go_simp
   simp only [pA, pB, pC, pD]
   rw [← HZZ.out]
   exact st501.out _ _ _ _ _ _ _ _ hv1 hv2 hv3 hv4 hv5 hB HBb HR HB HZ _ (by kernel_rfl)
 have st400 : Hid (∀ (v1 : Nat) (v2 : Nat) (v3 : Nat) (v4 : Nat) (wc : World), (v1 : Int) < 3 → (v2 : Int) < 4 → (v3 : Int) < 4 → (v4 : Int) < 3 → Hid (RdS p (k0 + 4) wc) → Hid (Bt p w.heap.size w wc) → Hid (Blk w.heap.size #[.string ⟨#[]⟩, .int .i64 0, .string ⟨#[]⟩, .int .i64 0, .int .i64 0, .int .i64 0, .int .i64 0] 36 wc) → ∀ L, L = #[true, true, true, true, false, true, true, false, false, true, true, true, true, false, true, false, false, false, true, false, false, false] → Z (fun _ => True) 10 L ⟨#[.pointer (some ⟨p, 0, none⟩), .string s, undef, undef, .pointer (some ⟨w.heap.size, 0, none⟩), .string s, .pointer (some ⟨p, 0, none⟩), .int .i64 (v1 : Int), .int .i64 (1 + (v1 : Int)), undef, .pointer (some ⟨p, 0, none⟩), .int .i64 (v2 : Int), undef, undef, .pointer (some ⟨p, 0, none⟩), .int .i64 (v3 : Int), .pointer (some ⟨p, 0, none⟩), .int .i64 (v4 : Int), undef, .pointer (some ⟨p, 0, none⟩), undef, undef, undef, .pointer (some ⟨p, 0, none⟩), undef, undef], []⟩ wc) := by
  intro v1 v2 v3 v4 wc hv1 hv2 hv3 hv4 HR HB HZ L hL
  subst hL
  rw [HZZ.out]
  refine wpAnyH_ready (rs := [4, 13, 15]) (by kernel_rfl) (by simp) (AllReadyH.cons (o := ⟨some 9, _, _, _, _, none⟩) rfl (fun K hK => ?_) (AllReadyH.cons (o := ⟨some 18, _, _, _, _, none⟩) rfl (fun K hK => ?_) (AllReadyH.cons (o := ⟨some 20, _, _, _, _, none⟩) rfl (fun K hK => ?_) AllReadyH.nil)))
  ·go_simp
   have hba : Below wc.heap.size wc (wc.alloc (.cells #[.string ⟨#[]⟩, .string ⟨#[118, 111, 108]⟩, .string ⟨#[105, 112]⟩, .string ⟨#[118, 111, 108, 50]⟩] 9)) := (Below.refl _ _).alloc (Nat.le_refl _) _
   have HA : Hid (Blk wc.heap.size #[.string ⟨#[]⟩, .string ⟨#[118, 111, 108]⟩, .string ⟨#[105, 112]⟩, .string ⟨#[118, 111, 108, 50]⟩] 9 (wc.alloc (.cells #[.string ⟨#[]⟩, .string ⟨#[118, 111, 108]⟩, .string ⟨#[105, 112]⟩, .string ⟨#[118, 111, 108, 50]⟩] 9))) := Blk.alloc _ _ _
   have hA : w.heap.size < wc.heap.size := HZ.out.lt
   have hpc := HR.out.lt
   replace HR : Hid (RdS p (k0 + 4) (wc.alloc (.cells #[.string ⟨#[]⟩, .string ⟨#[118, 111, 108]⟩, .string ⟨#[105, 112]⟩, .string ⟨#[118, 111, 108, 50]⟩] 9))) := HR.out.below hba hpc
   replace HB : Hid (Bt p w.heap.size w (wc.alloc (.cells #[.string ⟨#[]⟩, .string ⟨#[118, 111, 108]⟩, .string ⟨#[105, 112]⟩, .string ⟨#[118, 111, 108, 50]⟩] 9))) := HB.out.trans (Bt.of_below (hba.mono HB.out.size))
   replace HZ : Hid (Blk w.heap.size #[.string ⟨#[]⟩, .int .i64 0, .string ⟨#[]⟩, .int .i64 0, .int .i64 0, .int .i64 0, .int .i64 0] 36 (wc.alloc (.cells #[.string ⟨#[]⟩, .string ⟨#[118, 111, 108]⟩, .string ⟨#[105, 112]⟩, .string ⟨#[118, 111, 108, 50]⟩] 9))) := HZ.out.below hba HZ.out.lt
   refine hK.out _ _ trivial (fun hS => ?_)
   clear hK K hba hpc hS
   generalize wc.alloc (Obj.cells #[.string ⟨#[]⟩, .string ⟨#[118, 111, 108]⟩, .string ⟨#[105, 112]⟩, .string ⟨#[118, 111, 108, 50]⟩] 9) = wn at *
   generalize wc.heap.size = bA at *
   refine wpAnyH_mono (S' := fun wy => Blk bA #[.string ⟨#[]⟩, .string ⟨#[118, 111, 108]⟩, .string ⟨#[105, 112]⟩, .string ⟨#[118, 111, 108, 50]⟩] 9 wy) (fun _ h => trivial) _ _ _ _ ?_
   have hS : (fun wy => Blk bA #[.string ⟨#[]⟩, .string ⟨#[118, 111, 108]⟩, .string ⟨#[105, 112]⟩, .string ⟨#[118, 111, 108, 50]⟩] 9 wy) wn := HA.out
   obtain ⟨hd, hhx, hhd⟩ := holdAt v2 hv2
   refine ty 7 ⟨some 12, _, _, _, _, none⟩ (.pointer (some ⟨bA, v2, none⟩)) rfl (by rfl) ?_ hS ?_
   ·intro wy hy
    clear hy
    first | (go_simp; done) | (go_simp; omega) | (go_simp; intro hh; omega)
   simp only [pA, pB, pC, pD]
   refine ty 8 ⟨some 13, _, _, _, _, none⟩ (.string hd) rfl (by rfl) ?_ hS ?_
   ·intro wy hy
    have h := hy
    have h0 := h.cell (o := v2) (v := .string hd) hhx
    clear hy
    go_simp
   simp only [pA, pB, pC, pD]
   rw [← HZZ.out]
   exact st410.out _ _ _ _ _ _ _ hv1 hv2 hv3 hv4 hA HA hhd HR HB HZ _ (by kernel_rfl)
  ·go_simp
   have hba : Below wc.heap.size wc (wc.alloc (.cells #[.int .i64 0, .int .i64 0, .int .i64 0, .int .i64 1, .int .i64 3, .int .i64 8] 3)) := (Below.refl _ _).alloc (Nat.le_refl _) _
   have HBb : Hid (Blk wc.heap.size #[.int .i64 0, .int .i64 0, .int .i64 0, .int .i64 1, .int .i64 3, .int .i64 8] 3 (wc.alloc (.cells #[.int .i64 0, .int .i64 0, .int .i64 0, .int .i64 1, .int .i64 3, .int .i64 8] 3))) := Blk.alloc _ _ _
   have hB : w.heap.size < wc.heap.size := HZ.out.lt
   have hpc := HR.out.lt
   replace HR : Hid (RdS p (k0 + 4) (wc.alloc (.cells #[.int .i64 0, .int .i64 0, .int .i64 0, .int .i64 1, .int .i64 3, .int .i64 8] 3))) := HR.out.below hba hpc
   replace HB : Hid (Bt p w.heap.size w (wc.alloc (.cells #[.int .i64 0, .int .i64 0, .int .i64 0, .int .i64 1, .int .i64 3, .int .i64 8] 3))) := HB.out.trans (Bt.of_below (hba.mono HB.out.size))
   replace HZ : Hid (Blk w.heap.size #[.string ⟨#[]⟩, .int .i64 0, .string ⟨#[]⟩, .int .i64 0, .int .i64 0, .int .i64 0, .int .i64 0] 36 (wc.alloc (.cells #[.int .i64 0, .int .i64 0, .int .i64 0, .int .i64 1, .int .i64 3, .int .i64 8] 3))) := HZ.out.below hba HZ.out.lt
   refine hK.out _ _ trivial (fun hS => ?_)
   clear hK K hba hpc hS
   generalize wc.alloc (Obj.cells #[.int .i64 0, .int .i64 0, .int .i64 0, .int .i64 1, .int .i64 3, .int .i64 8] 3) = wn at *
   generalize wc.heap.size = bB at *
   refine wpAnyH_mono (S' := fun wy => Blk bB #[.int .i64 0, .int .i64 0, .int .i64 0, .int .i64 1, .int .i64 3, .int .i64 8] 3 wy) (fun _ h => trivial) _ _ _ _ ?_
   have hS : (fun wy => Blk bB #[.int .i64 0, .int .i64 0, .int .i64 0, .int .i64 1, .int .i64 3, .int .i64 8] 3 wy) wn := HBb.out
   rw [← HZZ.out]
   exact st401.out _ _ _ _ _ _ hv1 hv2 hv3 hv4 hB HBb HR HB HZ _ (by kernel_rfl)
  ·go_simp
   refine (pick_rd p (k0 + 4) 6 _ HR.out (by omega) (by omega) (by omega)).mono ?_
   rintro e wn ⟨v5, rfl, hv5, hr, hb, hs⟩
   replace HR : Hid (RdS p (k0 + 5) wn) := hr
   replace HB : Hid (Bt p w.heap.size w wn) := HB.out.trans (hb.mono HB.out.size)
   replace HZ : Hid (Blk w.heap.size #[.string ⟨#[]⟩, .int .i64 0, .string ⟨#[]⟩, .int .i64 0, .int .i64 0, .int .i64 0, .int .i64 0] 36 wn) := HZ.out.bt hb HZ.out.lt (by omega)
   refine hK.out _ _ trivial (fun hS => ?_)
   clear hK K hb hs hr
   rw [← HZZ.out]
   exact st500.out _ _ _ _ _ _ hv1 hv2 hv3 hv4 hv5 HR HB HZ _ (by kernel_rfl)
 have st311 : Hid (∀ (v1 : Nat) (v2 : Nat) (v3 : Nat) (bA : Nat) (bB : Nat) (hd : ByteArray) (wc : World), (v1 : Int) < 3 → (v2 : Int) < 4 → (v3 : Int) < 4 → w.heap.size < bA → Hid (Blk bA #[.string ⟨#[]⟩, .string ⟨#[118, 111, 108]⟩, .string ⟨#[105, 112]⟩, .string ⟨#[118, 111, 108, 50]⟩] 9 wc) → w.heap.size < bB → Hid (Blk bB #[.int .i64 0, .int .i64 0, .int .i64 0, .int .i64 1, .int .i64 3, .int .i64 8] 3 wc) → hd.size ≤ 4 → Hid (RdS p (k0 + 3) wc) → Hid (Bt p w.heap.size w wc) → Hid (Blk w.heap.size #[.string ⟨#[]⟩, .int .i64 0, .string ⟨#[]⟩, .int .i64 0, .int .i64 0, .int .i64 0, .int .i64 0] 36 wc) → ∀ L, L = #[true, true, true, true, true, true, true, true, true, true, true, true, false, true, true, false, false, false, true, false, false, false] → Z (fun wy => Blk bA #[.string ⟨#[]⟩, .string ⟨#[118, 111, 108]⟩, .string ⟨#[105, 112]⟩, .string ⟨#[118, 111, 108, 50]⟩] 9 wy ∧ Blk bB #[.int .i64 0, .int .i64 0, .int .i64 0, .int .i64 1, .int .i64 3, .int .i64 8] 3 wy) 7 L ⟨#[.pointer (some ⟨p, 0, none⟩), .string s, undef, undef, .pointer (some ⟨w.heap.size, 0, none⟩), .string s, .pointer (some ⟨p, 0, none⟩), .int .i64 (v1 : Int), .int .i64 (1 + (v1 : Int)), .slice (some ⟨bA, 0, none⟩) 4 4, .pointer (some ⟨p, 0, none⟩), .int .i64 (v2 : Int), .pointer (some ⟨bA, v2, none⟩), .string hd, .pointer (some ⟨p, 0, none⟩), .int .i64 (v3 : Int), .pointer (some ⟨p, 0, none⟩), undef, .slice (some ⟨bB, 0, none⟩) 6 6, .pointer (some ⟨p, 0, none⟩), undef, undef, undef, .pointer (some ⟨p, 0, none⟩), undef, undef], []⟩ wc) := by
  intro v1 v2 v3 bA bB hd wc hv1 hv2 hv3 hA HA hB HBb hhd HR HB HZ L hL
  subst hL
  rw [HZZ.out]
  refine rd1 12 ⟨some 17, _, _, _, _, none⟩ rfl (fun K hK => ?_)
  ·go_simp
   refine (pick_rd p (k0 + 3) 3 _ HR.out (by omega) (by omega) (by omega)).mono ?_
   rintro e wn ⟨v4, rfl, hv4, hr, hb, hs⟩
   replace HR : Hid (RdS p (k0 + 4) wn) := hr
   replace HB : Hid (Bt p w.heap.size w wn) := HB.out.trans (hb.mono HB.out.size)
   replace HZ : Hid (Blk w.heap.size #[.string ⟨#[]⟩, .int .i64 0, .string ⟨#[]⟩, .int .i64 0, .int .i64 0, .int .i64 0, .int .i64 0] 36 wn) := HZ.out.bt hb HZ.out.lt (by omega)
   replace HA : Hid (Blk bA #[.string ⟨#[]⟩, .string ⟨#[118, 111, 108]⟩, .string ⟨#[105, 112]⟩, .string ⟨#[118, 111, 108, 50]⟩] 9 wn) := HA.out.bt hb HA.out.lt (by omega)
   replace HBb : Hid (Blk bB #[.int .i64 0, .int .i64 0, .int .i64 0, .int .i64 1, .int .i64 3, .int .i64 8] 3 wn) := HBb.out.bt hb HBb.out.lt (by omega)
   refine hK.out _ _ ⟨HA.out, HBb.out⟩ (fun hS => ?_)
   clear hK K hb hs hr
   rw [← HZZ.out]
   exact st411.out _ _ _ _ _ _ _ _ hv1 hv2 hv3 hv4 hA HA hB HBb hhd HR HB HZ _ (by kernel_rfl)
 have st310 : Hid (∀ (v1 : Nat) (v2 : Nat) (v3 : Nat) (bA : Nat) (hd : ByteArray) (wc : World), (v1 : Int) < 3 → (v2 : Int) < 4 → (v3 : Int) < 4 → w.heap.size < bA → Hid (Blk bA #[.string ⟨#[]⟩, .string ⟨#[118, 111, 108]⟩, .string ⟨#[105, 112]⟩, .string ⟨#[118, 111, 108, 50]⟩] 9 wc) → hd.size ≤ 4 → Hid (RdS p (k0 + 3) wc) → Hid (Bt p w.heap.size w wc) → Hid (Blk w.heap.size #[.string ⟨#[]⟩, .int .i64 0, .string ⟨#[]⟩, .int .i64 0, .int .i64 0, .int .i64 0, .int .i64 0] 36 wc) → ∀ L, L = #[true, true, true, true, true, true, true, true, true, true, true, true, false, false, true, false, false, false, true, false, false, false] → Z (fun wy => Blk bA #[.string ⟨#[]⟩, .string ⟨#[118, 111, 108]⟩, .string ⟨#[105, 112]⟩, .string ⟨#[118, 111, 108, 50]⟩] 9 wy) 8 L ⟨#[.pointer (some ⟨p, 0, none⟩), .string s, undef, undef, .pointer (some ⟨w.heap.size, 0, none⟩), .string s, .pointer (some ⟨p, 0, none⟩), .int .i64 (v1 : Int), .int .i64 (1 + (v1 : Int)), .slice (some ⟨bA, 0, none⟩) 4 4, .pointer (some ⟨p, 0, none⟩), .int .i64 (v2 : Int), .pointer (some ⟨bA, v2, none⟩), .string hd, .pointer (some ⟨p, 0, none⟩), .int .i64 (v3 : Int), .pointer (some ⟨p, 0, none⟩), undef, undef, .pointer (some ⟨p, 0, none⟩), undef, undef, undef, .pointer (some ⟨p, 0, none⟩), undef, undef], []⟩ wc) := by
  intro v1 v2 v3 bA hd wc hv1 hv2 hv3 hA HA hhd HR HB HZ L hL
  subst hL
  rw [HZZ.out]
  refine wpAnyH_ready (rs := [12, 13]) (by kernel_rfl) (by simp) (AllReadyH.cons (o := ⟨some 17, _, _, _, _, none⟩) rfl (fun K hK => ?_) (AllReadyH.cons (o := ⟨some 18, _, _, _, _, none⟩) rfl (fun K hK => ?_) AllReadyH.nil))
  ·go_simp
   refine (pick_rd p (k0 + 3) 3 _ HR.out (by omega) (by omega) (by omega)).mono ?_
   rintro e wn ⟨v4, rfl, hv4, hr, hb, hs⟩
   replace HR : Hid (RdS p (k0 + 4) wn) := hr
   replace HB : Hid (Bt p w.heap.size w wn) := HB.out.trans (hb.mono HB.out.size)
   replace HZ : Hid (Blk w.heap.size #[.string ⟨#[]⟩, .int .i64 0, .string ⟨#[]⟩, .int .i64 0, .int .i64 0, .int .i64 0, .int .i64 0] 36 wn) := HZ.out.bt hb HZ.out.lt (by omega)
   replace HA : Hid (Blk bA #[.string ⟨#[]⟩, .string ⟨#[118, 111, 108]⟩, .string ⟨#[105, 112]⟩, .string ⟨#[118, 111, 108, 50]⟩] 9 wn) := HA.out.bt hb HA.out.lt (by omega)
   refine hK.out _ _ HA.out (fun hS => ?_)
   clear hK K hb hs hr
   rw [← HZZ.out]
   exact st410.out _ _ _ _ _ _ _ hv1 hv2 hv3 hv4 hA HA hhd HR HB HZ _ (by kernel_rfl)
  ·go_simp
   have hba : Below wc.heap.size wc (wc.alloc (.cells #[.int .i64 0, .int .i64 0, .int .i64 0, .int .i64 1, .int .i64 3, .int .i64 8] 3)) := (Below.refl _ _).alloc (Nat.le_refl _) _
   have HBb : Hid (Blk wc.heap.size #[.int .i64 0, .int .i64 0, .int .i64 0, .int .i64 1, .int .i64 3, .int .i64 8] 3 (wc.alloc (.cells #[.int .i64 0, .int .i64 0, .int .i64 0, .int .i64 1, .int .i64 3, .int .i64 8] 3))) := Blk.alloc _ _ _
   have hB : w.heap.size < wc.heap.size := HZ.out.lt
   have hpc := HR.out.lt
   replace HR : Hid (RdS p (k0 + 3) (wc.alloc (.cells #[.int .i64 0, .int .i64 0, .int .i64 0, .int .i64 1, .int .i64 3, .int .i64 8] 3))) := HR.out.below hba hpc
   replace HB : Hid (Bt p w.heap.size w (wc.alloc (.cells #[.int .i64 0, .int .i64 0, .int .i64 0, .int .i64 1, .int .i64 3, .int .i64 8] 3))) := HB.out.trans (Bt.of_below (hba.mono HB.out.size))
   replace HZ : Hid (Blk w.heap.size #[.string ⟨#[]⟩, .int .i64 0, .string ⟨#[]⟩, .int .i64 0, .int .i64 0, .int .i64 0, .int .i64 0] 36 (wc.alloc (.cells #[.int .i64 0, .int .i64 0, .int .i64 0, .int .i64 1, .int .i64 3, .int .i64 8] 3))) := HZ.out.below hba HZ.out.lt
   replace HA : Hid (Blk bA #[.string ⟨#[]⟩, .string ⟨#[118, 111, 108]⟩, .string ⟨#[105, 112]⟩, .string ⟨#[118, 111, 108, 50]⟩] 9 (wc.alloc (.cells #[.int .i64 0, .int .i64 0, .int .i64 0, .int .i64 1, .int .i64 3, .int .i64 8] 3))) := HA.out.below hba HA.out.lt
   refine hK.out _ _ HA.out (fun hS => ?_)
   clear hK K hba hpc hS
   generalize wc.alloc (Obj.cells #[.int .i64 0, .int .i64 0, .int .i64 0, .int .i64 1, .int .i64 3, .int .i64 8] 3) = wn at *
   generalize wc.heap.size = bB at *
   refine wpAnyH_mono (S' := fun wy => Blk bA #[.string ⟨#[]⟩, .string ⟨#[118, 111, 108]⟩, .string ⟨#[105, 112]⟩, .string ⟨#[118, 111, 108, 50]⟩] 9 wy ∧ Blk bB #[.int .i64 0, .int .i64 0, .int .i64 0, .int .i64 1, .int .i64 3, .int .i64 8] 3 wy) (fun _ h => h.1) _ _ _ _ ?_
   have hS : (fun wy => Blk bA #[.string ⟨#[]⟩, .string ⟨#[118, 111, 108]⟩, .string ⟨#[105, 112]⟩, .string ⟨#[118, 111, 108, 50]⟩] 9 wy ∧ Blk bB #[.int .i64 0, .int .i64 0, .int .i64 0, .int .i64 1, .int .i64 3, .int .i64 8] 3 wy) wn := ⟨HA.out, HBb.out⟩
   rw [← HZZ.out]
   exact st311.out _ _ _ _ _ _ _ hv1 hv2 hv3 hA HA hB HBb hhd HR HB HZ _ (by kernel_rfl)
 have st301 : Hid (∀ (v1 : Nat) (v2 : Nat) (v3 : Nat) (bB : Nat) (wc : World), (v1 : Int) < 3 → (v2 : Int) < 4 → (v3 : Int) < 4 → w.heap.size < bB → Hid (Blk bB #[.int .i64 0, .int .i64 0, .int .i64 0, .int .i64 1, .int .i64 3, .int .i64 8] 3 wc) → Hid (RdS p (k0 + 3) wc) → Hid (Bt p w.heap.size w wc) → Hid (Blk w.heap.size #[.string ⟨#[]⟩, .int .i64 0, .string ⟨#[]⟩, .int .i64 0, .int .i64 0, .int .i64 0, .int .i64 0] 36 wc) → ∀ L, L = #[true, true, true, true, false, true, true, false, false, true, true, true, false, true, true, false, false, false, true, false, false, false] → Z (fun wy => Blk bB #[.int .i64 0, .int .i64 0, .int .i64 0, .int .i64 1, .int .i64 3, .int .i64 8] 3 wy) 10 L ⟨#[.pointer (some ⟨p, 0, none⟩), .string s, undef, undef, .pointer (some ⟨w.heap.size, 0, none⟩), .string s, .pointer (some ⟨p, 0, none⟩), .int .i64 (v1 : Int), .int .i64 (1 + (v1 : Int)), undef, .pointer (some ⟨p, 0, none⟩), .int .i64 (v2 : Int), undef, undef, .pointer (some ⟨p, 0, none⟩), .int .i64 (v3 : Int), .pointer (some ⟨p, 0, none⟩), undef, .slice (some ⟨bB, 0, none⟩) 6 6, .pointer (some ⟨p, 0, none⟩), undef, undef, undef, .pointer (some ⟨p, 0, none⟩), undef, undef], []⟩ wc) := by
  intro v1 v2 v3 bB wc hv1 hv2 hv3 hB HBb HR HB HZ L hL
  subst hL
  rw [HZZ.out]
  refine wpAnyH_ready (rs := [4, 12]) (by kernel_rfl) (by simp) (AllReadyH.cons (o := ⟨some 9, _, _, _, _, none⟩) rfl (fun K hK => ?_) (AllReadyH.cons (o := ⟨some 17, _, _, _, _, none⟩) rfl (fun K hK => ?_) AllReadyH.nil))
  ·go_simp
   have hba : Below wc.heap.size wc (wc.alloc (.cells #[.string ⟨#[]⟩, .string ⟨#[118, 111, 108]⟩, .string ⟨#[105, 112]⟩, .string ⟨#[118, 111, 108, 50]⟩] 9)) := (Below.refl _ _).alloc (Nat.le_refl _) _
   have HA : Hid (Blk wc.heap.size #[.string ⟨#[]⟩, .string ⟨#[118, 111, 108]⟩, .string ⟨#[105, 112]⟩, .string ⟨#[118, 111, 108, 50]⟩] 9 (wc.alloc (.cells #[.string ⟨#[]⟩, .string ⟨#[118, 111, 108]⟩, .string ⟨#[105, 112]⟩, .string ⟨#[118, 111, 108, 50]⟩] 9))) := Blk.alloc _ _ _
   have hA : w.heap.size < wc.heap.size := HZ.out.lt
   have hpc := HR.out.lt
   replace HR : Hid (RdS p (k0 + 3) (wc.alloc (.cells #[.string ⟨#[]⟩, .string ⟨#[118, 111, 108]⟩, .string ⟨#[105, 112]⟩, .string ⟨#[118, 111, 108, 50]⟩] 9))) := HR.out.below hba hpc
   replace HB : Hid (Bt p w.heap.size w (wc.alloc (.cells #[.string ⟨#[]⟩, .string ⟨#[118, 111, 108]⟩, .string ⟨#[105, 112]⟩, .string ⟨#[118, 111, 108, 50]⟩] 9))) := HB.out.trans (Bt.of_below (hba.mono HB.out.size))
   replace HZ : Hid (Blk w.heap.size #[.string ⟨#[]⟩, .int .i64 0, .string ⟨#[]⟩, .int .i64 0, .int .i64 0, .int .i64 0, .int .i64 0] 36 (wc.alloc (.cells #[.string ⟨#[]⟩, .string ⟨#[118, 111, 108]⟩, .string ⟨#[105, 112]⟩, .string ⟨#[118, 111, 108, 50]⟩] 9))) := HZ.out.below hba HZ.out.lt
   replace HBb : Hid (Blk bB #[.int .i64 0, .int .i64 0, .int .i64 0, .int .i64 1, .int .i64 3, .int .i64 8] 3 (wc.alloc (.cells #[.string ⟨#[]⟩, .string ⟨#[118, 111, 108]⟩, .string ⟨#[105, 112]⟩, .string ⟨#[118, 111, 108, 50]⟩] 9))) := HBb.out.below hba HBb.out.lt
   refine hK.out _ _ HBb.out (fun hS => ?_)
   clear hK K hba hpc hS
   generalize wc.alloc (Obj.cells #[.string ⟨#[]⟩, .string ⟨#[118, 111, 108]⟩, .string ⟨#[105, 112]⟩, .string ⟨#[118, 111, 108, 50]⟩] 9) = wn at *
   generalize wc.heap.size = bA at *
   refine wpAnyH_mono (S' := fun wy => Blk bA #[.string ⟨#[]⟩, .string ⟨#[118, 111, 108]⟩, .string ⟨#[105, 112]⟩, .string ⟨#[118, 111, 108, 50]⟩] 9 wy ∧ Blk bB #[.int .i64 0, .int .i64 0, .int .i64 0, .int .i64 1, .int .i64 3, .int .i64 8] 3 wy) (fun _ h => h.2) _ _ _ _ ?_
   have hS : (fun wy => Blk bA #[.string ⟨#[]⟩, .string ⟨#[118, 111, 108]⟩, .string ⟨#[105, 112]⟩, .string ⟨#[118, 111, 108, 50]⟩] 9 wy ∧ Blk bB #[.int .i64 0, .int .i64 0, .int .i64 0, .int .i64 1, .int .i64 3, .int .i64 8] 3 wy) wn := ⟨HA.out, HBb.out⟩
   obtain ⟨hd, hhx, hhd⟩ := holdAt v2 hv2
   refine ty 7 ⟨some 12, _, _, _, _, none⟩ (.pointer (some ⟨bA, v2, none⟩)) rfl (by rfl) ?_ hS ?_
   ·intro wy hy
    clear hy
    first | (go_simp; done) | (go_simp; omega) | (go_simp; intro hh; omega)
   simp only [pA, pB, pC, pD]
   refine ty 8 ⟨some 13, _, _, _, _, none⟩ (.string hd) rfl (by rfl) ?_ hS ?_
   ·intro wy hy
    have h := hy
    have h0 := h.1.cell (o := v2) (v := .string hd) hhx
    clear hy
    go_simp
   simp only [pA, pB, pC, pD]
   rw [← HZZ.out]
   exact st311.out _ _ _ _ _ _ _ hv1 hv2 hv3 hA HA hB HBb hhd HR HB HZ _ (by kernel_rfl)
  ·go_simp
   refine (pick_rd p (k0 + 3) 3 _ HR.out (by omega) (by omega) (by omega)).mono ?_
   rintro e wn ⟨v4, rfl, hv4, hr, hb, hs⟩
   replace HR : Hid (RdS p (k0 + 4) wn) := hr
   replace HB : Hid (Bt p w.heap.size w wn) := HB.out.trans (hb.mono HB.out.size)
   replace HZ : Hid (Blk w.heap.size #[.string ⟨#[]⟩, .int .i64 0, .string ⟨#[]⟩, .int .i64 0, .int .i64 0, .int .i64 0, .int .i64 0] 36 wn) := HZ.out.bt hb HZ.out.lt (by omega)
   replace HBb : Hid (Blk bB #[.int .i64 0, .int .i64 0, .int .i64 0, .int .i64 1, .int .i64 3, .int .i64 8] 3 wn) := HBb.out.bt hb HBb.out.lt (by omega)
   refine hK.out _ _ HBb.out (fun hS => ?_)
   clear hK K hb hs hr
   rw [← HZZ.out]
   exact st401.out _ _ _ _ _ _ hv1 hv2 hv3 hv4 hB HBb HR HB HZ _ (by kernel_rfl)
 have st300 : Hid (∀ (v1 : Nat) (v2 : Nat) (v3 : Nat) (wc : World), (v1 : Int) < 3 → (v2 : Int) < 4 → (v3 : Int) < 4 → Hid (RdS p (k0 + 3) wc) → Hid (Bt p w.heap.size w wc) → Hid (Blk w.heap.size #[.string ⟨#[]⟩, .int .i64 0, .string ⟨#[]⟩, .int .i64 0, .int .i64 0, .int .i64 0, .int .i64 0] 36 wc) → ∀ L, L = #[true, true, true, true, false, true, true, false, false, true, true, true, false, false, true, false, false, false, true, false, false, false] → Z (fun _ => True) 11 L ⟨#[.pointer (some ⟨p, 0, none⟩), .string s, undef, undef, .pointer (some ⟨w.heap.size, 0, none⟩), .string s, .pointer (some ⟨p, 0, none⟩), .int .i64 (v1 : Int), .int .i64 (1 + (v1 : Int)), undef, .pointer (some ⟨p, 0, none⟩), .int .i64 (v2 : Int), undef, undef, .pointer (some ⟨p, 0, none⟩), .int .i64 (v3 : Int), .pointer (some ⟨p, 0, none⟩), undef, undef, .pointer (some ⟨p, 0, none⟩), undef, undef, undef, .pointer (some ⟨p, 0, none⟩), undef, undef], []⟩ wc) := by
  intro v1 v2 v3 wc hv1 hv2 hv3 HR HB HZ L hL
  subst hL
  rw [HZZ.out]
  refine wpAnyH_ready (rs := [4, 12, 13]) (by kernel_rfl) (by simp) (AllReadyH.cons (o := ⟨some 9, _, _, _, _, none⟩) rfl (fun K hK => ?_) (AllReadyH.cons (o := ⟨some 17, _, _, _, _, none⟩) rfl (fun K hK => ?_) (AllReadyH.cons (o := ⟨some 18, _, _, _, _, none⟩) rfl (fun K hK => ?_) AllReadyH.nil)))
  ·go_simp
   have hba : Below wc.heap.size wc (wc.alloc (.cells #[.string ⟨#[]⟩, .string ⟨#[118, 111, 108]⟩, .string ⟨#[105, 112]⟩, .string ⟨#[118, 111, 108, 50]⟩] 9)) := (Below.refl _ _).alloc (Nat.le_refl _) _
   have HA : Hid (Blk wc.heap.size #[.string ⟨#[]⟩, .string ⟨#[118, 111, 108]⟩, .string ⟨#[105, 112]⟩, .string ⟨#[118, 111, 108, 50]⟩] 9 (wc.alloc (.cells #[.string ⟨#[]⟩, .string ⟨#[118, 111, 108]⟩, .string ⟨#[105, 112]⟩, .string ⟨#[118, 111, 108, 50]⟩] 9))) := Blk.alloc _ _ _
   have hA : w.heap.size < wc.heap.size := HZ.out.lt
   have hpc := HR.out.lt
   replace HR : Hid (RdS p (k0 + 3) (wc.alloc (.cells #[.string ⟨#[]⟩, .string ⟨#[118, 111, 108]⟩, .string ⟨#[105, 112]⟩, .string ⟨#[118, 111, 108, 50]⟩] 9))) := HR.out.below hba hpc
   replace HB : Hid (Bt p w.heap.size w (wc.alloc (.cells #[.string ⟨#[]⟩, .string ⟨#[118, 111, 108]⟩, .string ⟨#[105, 112]⟩, .string ⟨#[118, 111, 108, 50]⟩] 9))) := HB.out.trans (Bt.of_below (hba.mono HB.out.size))
   replace HZ : Hid (Blk w.heap.size #[.string ⟨#[]⟩, .int .i64 0, .string ⟨#[]⟩, .int .i64 0, .int .i64 0, .int .i64 0, .int .i64 0] 36 (wc.alloc (.cells #[.string ⟨#[]⟩, .string ⟨#[118, 111, 108]⟩, .string ⟨#[105, 112]⟩, .string ⟨#[118, 111, 108, 50]⟩] 9))) := HZ.out.below hba HZ.out.lt
   refine hK.out _ _ trivial (fun hS => ?_)
   clear hK K hba hpc hS
   generalize wc.alloc (Obj.cells #[.string ⟨#[]⟩, .string ⟨#[118, 111, 108]⟩, .string ⟨#[105, 112]⟩, .string ⟨#[118, 111, 108, 50]⟩] 9) = wn at *
   generalize wc.heap.size = bA at *
   refine wpAnyH_mono (S' := fun wy => Blk bA #[.string ⟨#[]⟩, .string ⟨#[118, 111, 108]⟩, .string ⟨#[105, 112]⟩, .string ⟨#[118, 111, 108, 50]⟩] 9 wy) (fun _ h => trivial) _ _ _ _ ?_
   have hS : (fun wy => Blk bA #[.string ⟨#[]⟩, .string ⟨#[118, 111, 108]⟩, .string ⟨#[105, 112]⟩, .string ⟨#[118, 111, 108, 50]⟩] 9 wy) wn := HA.out
   obtain ⟨hd, hhx, hhd⟩ := holdAt v2 hv2
   refine ty 7 ⟨some 12, _, _, _, _, none⟩ (.pointer (some ⟨bA, v2, none⟩)) rfl (by rfl) ?_ hS ?_
   ·intro wy hy
    clear hy
    first | (go_simp; done) | (go_simp; omega) | (go_simp; intro hh; omega)
   simp only [pA, pB, pC, pD]
   refine ty 8 ⟨some 13, _, _, _, _, none⟩ (.string hd) rfl (by rfl) ?_ hS ?_
   ·intro wy hy
    have h := hy
    have h0 := h.cell (o := v2) (v := .string hd) hhx
    clear hy
    go_simp
   simp only [pA, pB, pC, pD]
   rw [← HZZ.out]
   exact st310.out _ _ _ _ _ _ hv1 hv2 hv3 hA HA hhd HR HB HZ _ (by kernel_rfl)
  ·go_simp
   refine (pick_rd p (k0 + 3) 3 _ HR.out (by omega) (by omega) (by omega)).mono ?_
   rintro e wn ⟨v4, rfl, hv4, hr, hb, hs⟩
   replace HR : Hid (RdS p (k0 + 4) wn) := hr
   replace HB : Hid (Bt p w.heap.size w wn) := HB.out.trans (hb.mono HB.out.size)
   replace HZ : Hid (Blk w.heap.size #[.string ⟨#[]⟩, .int .i64 0, .string ⟨#[]⟩, .int .i64 0, .int .i64 0, .int .i64 0, .int .i64 0] 36 wn) := HZ.out.bt hb HZ.out.lt (by omega)
   refine hK.out _ _ trivial (fun hS => ?_)
   clear hK K hb hs hr
   rw [← HZZ.out]
   exact st400.out _ _ _ _ _ hv1 hv2 hv3 hv4 HR HB HZ _ (by kernel_rfl)
  ·go_simp
   have hba : Below wc.heap.size wc (wc.alloc (.cells #[.int .i64 0, .int .i64 0, .int .i64 0, .int .i64 1, .int .i64 3, .int .i64 8] 3)) := (Below.refl _ _).alloc (Nat.le_refl _) _
   have HBb : Hid (Blk wc.heap.size #[.int .i64 0, .int .i64 0, .int .i64 0, .int .i64 1, .int .i64 3, .int .i64 8] 3 (wc.alloc (.cells #[.int .i64 0, .int .i64 0, .int .i64 0, .int .i64 1, .int .i64 3, .int .i64 8] 3))) := Blk.alloc _ _ _
   have hB : w.heap.size < wc.heap.size := HZ.out.lt
   have hpc := HR.out.lt
   replace HR : Hid (RdS p (k0 + 3) (wc.alloc (.cells #[.int .i64 0, .int .i64 0, .int .i64 0, .int .i64 1, .int .i64 3, .int .i64 8] 3))) := HR.out.below hba hpc
   replace HB : Hid (Bt p w.heap.size w (wc.alloc (.cells #[.int .i64 0, .int .i64 0, .int .i64 0, .int .i64 1, .int .i64 3, .int .i64 8] 3))) := HB.out.trans (Bt.of_below (hba.mono HB.out.size))
   replace HZ : Hid (Blk w.heap.size #[.string ⟨#[]⟩, .int .i64 0, .string ⟨#[]⟩, .int .i64 0, .int .i64 0, .int .i64 0, .int .i64 0] 36 (wc.alloc (.cells #[.int .i64 0, .int .i64 0, .int .i64 0, .int .i64 1, .int .i64 3, .int .i64 8] 3))) := HZ.out.below hba HZ.out.lt
   refine hK.out _ _ trivial (fun hS => ?_)
   clear hK K hba hpc hS
   generalize wc.alloc (Obj.cells #[.int .i64 0, .int .i64 0, .int .i64 0, .int .i64 1, .int .i64 3, .int .i64 8] 3) = wn at *
   generalize wc.heap.size = bB at *
   refine wpAnyH_mono (S' := fun wy => Blk bB #[.int .i64 0, .int .i64 0, .int .i64 0, .int .i64 1, .int .i64 3, .int .i64 8] 3 wy) (fun _ h => trivial) _ _ _ _ ?_
   have hS : (fun wy => Blk bB #[.int .i64 0, .int .i64 0, .int .i64 0, .int .i64 1, .int .i64 3, .int .i64 8] 3 wy) wn := HBb.out
   rw [← HZZ.out]
   exact st301.out _ _ _ _ _ hv1 hv2 hv3 hB HBb HR HB HZ _ (by kernel_rfl)
 have st211 : Hid (∀ (v1 : Nat) (v2 : Nat) (bA : Nat) (bB : Nat) (hd : ByteArray) (wc : World), (v1 : Int) < 3 → (v2 : Int) < 4 → w.heap.size < bA → Hid (Blk bA #[.string ⟨#[]⟩, .string ⟨#[118, 111, 108]⟩, .string ⟨#[105, 112]⟩, .string ⟨#[118, 111, 108, 50]⟩] 9 wc) → w.heap.size < bB → Hid (Blk bB #[.int .i64 0, .int .i64 0, .int .i64 0, .int .i64 1, .int .i64 3, .int .i64 8] 3 wc) → hd.size ≤ 4 → Hid (RdS p (k0 + 2) wc) → Hid (Bt p w.heap.size w wc) → Hid (Blk w.heap.size #[.string ⟨#[]⟩, .int .i64 0, .string ⟨#[]⟩, .int .i64 0, .int .i64 0, .int .i64 0, .int .i64 0] 36 wc) → ∀ L, L = #[true, true, true, true, true, true, true, true, true, true, false, true, false, true, true, false, false, false, true, false, false, false] → Z (fun wy => Blk bA #[.string ⟨#[]⟩, .string ⟨#[118, 111, 108]⟩, .string ⟨#[105, 112]⟩, .string ⟨#[118, 111, 108, 50]⟩] 9 wy ∧ Blk bB #[.int .i64 0, .int .i64 0, .int .i64 0, .int .i64 1, .int .i64 3, .int .i64 8] 3 wy) 8 L ⟨#[.pointer (some ⟨p, 0, none⟩), .string s, undef, undef, .pointer (some ⟨w.heap.size, 0, none⟩), .string s, .pointer (some ⟨p, 0, none⟩), .int .i64 (v1 : Int), .int .i64 (1 + (v1 : Int)), .slice (some ⟨bA, 0, none⟩) 4 4, .pointer (some ⟨p, 0, none⟩), .int .i64 (v2 : Int), .pointer (some ⟨bA, v2, none⟩), .string hd, .pointer (some ⟨p, 0, none⟩), undef, .pointer (some ⟨p, 0, none⟩), undef, .slice (some ⟨bB, 0, none⟩) 6 6, .pointer (some ⟨p, 0, none⟩), undef, undef, undef, .pointer (some ⟨p, 0, none⟩), undef, undef], []⟩ wc) := by
  intro v1 v2 bA bB hd wc hv1 hv2 hA HA hB HBb hhd HR HB HZ L hL
  subst hL
  rw [HZZ.out]
  refine rd1 10 ⟨some 15, _, _, _, _, none⟩ rfl (fun K hK => ?_)
  ·go_simp
   refine (pick_rd p (k0 + 2) 4 _ HR.out (by omega) (by omega) (by omega)).mono ?_
   rintro e wn ⟨v3, rfl, hv3, hr, hb, hs⟩
   replace HR : Hid (RdS p (k0 + 3) wn) := hr
   replace HB : Hid (Bt p w.heap.size w wn) := HB.out.trans (hb.mono HB.out.size)
   replace HZ : Hid (Blk w.heap.size #[.string ⟨#[]⟩, .int .i64 0, .string ⟨#[]⟩, .int .i64 0, .int .i64 0, .int .i64 0, .int .i64 0] 36 wn) := HZ.out.bt hb HZ.out.lt (by omega)
   replace HA : Hid (Blk bA #[.string ⟨#[]⟩, .string ⟨#[118, 111, 108]⟩, .string ⟨#[105, 112]⟩, .string ⟨#[118, 111, 108, 50]⟩] 9 wn) := HA.out.bt hb HA.out.lt (by omega)
   replace HBb : Hid (Blk bB #[.int .i64 0, .int .i64 0, .int .i64 0, .int .i64 1, .int .i64 3, .int .i64 8] 3 wn) := HBb.out.bt hb HBb.out.lt (by omega)
   refine hK.out _ _ ⟨HA.out, HBb.out⟩ (fun hS => ?_)
   clear hK K hb hs hr
   rw [← HZZ.out]
   exact st311.out _ _ _ _ _ _ _ hv1 hv2 hv3 hA HA hB HBb hhd HR HB HZ _ (by kernel_rfl)
 have st210 : Hid (∀ (v1 : Nat) (v2 : Nat) (bA : Nat) (hd : ByteArray) (wc : World), (v1 : Int) < 3 → (v2 : Int) < 4 → w.heap.size < bA → Hid (Blk bA #[.string ⟨#[]⟩, .string ⟨#[118, 111, 108]⟩, .string ⟨#[105, 112]⟩, .string ⟨#[118, 111, 108, 50]⟩] 9 wc) → hd.size ≤ 4 → Hid (RdS p (k0 + 2) wc) → Hid (Bt p w.heap.size w wc) → Hid (Blk w.heap.size #[.string ⟨#[]⟩, .int .i64 0, .string ⟨#[]⟩, .int .i64 0, .int .i64 0, .int .i64 0, .int .i64 0] 36 wc) → ∀ L, L = #[true, true, true, true, true, true, true, true, true, true, false, true, false, false, true, false, false, false, true, false, false, false] → Z (fun wy => Blk bA #[.string ⟨#[]⟩, .string ⟨#[118, 111, 108]⟩, .string ⟨#[105, 112]⟩, .string ⟨#[118, 111, 108, 50]⟩] 9 wy) 9 L ⟨#[.pointer (some ⟨p, 0, none⟩), .string s, undef, undef, .pointer (some ⟨w.heap.size, 0, none⟩), .string s, .pointer (some ⟨p, 0, none⟩), .int .i64 (v1 : Int), .int .i64 (1 + (v1 : Int)), .slice (some ⟨bA, 0, none⟩) 4 4, .pointer (some ⟨p, 0, none⟩), .int .i64 (v2 : Int), .pointer (some ⟨bA, v2, none⟩), .string hd, .pointer (some ⟨p, 0, none⟩), undef, .pointer (some ⟨p, 0, none⟩), undef, undef, .pointer (some ⟨p, 0, none⟩), undef, undef, undef, .pointer (some ⟨p, 0, none⟩), undef, undef], []⟩ wc) := by
  intro v1 v2 bA hd wc hv1 hv2 hA HA hhd HR HB HZ L hL
  subst hL
  rw [HZZ.out]
  refine wpAnyH_ready (rs := [10, 13]) (by kernel_rfl) (by simp) (AllReadyH.cons (o := ⟨some 15, _, _, _, _, none⟩) rfl (fun K hK => ?_) (AllReadyH.cons (o := ⟨some 18, _, _, _, _, none⟩) rfl (fun K hK => ?_) AllReadyH.nil))
  ·go_simp
   refine (pick_rd p (k0 + 2) 4 _ HR.out (by omega) (by omega) (by omega)).mono ?_
   rintro e wn ⟨v3, rfl, hv3, hr, hb, hs⟩
   replace HR : Hid (RdS p (k0 + 3) wn) := hr
   replace HB : Hid (Bt p w.heap.size w wn) := HB.out.trans (hb.mono HB.out.size)
   replace HZ : Hid (Blk w.heap.size #[.string ⟨#[]⟩, .int .i64 0, .string ⟨#[]⟩, .int .i64 0, .int .i64 0, .int .i64 0, .int .i64 0] 36 wn) := HZ.out.bt hb HZ.out.lt (by omega)
   replace HA : Hid (Blk bA #[.string ⟨#[]⟩, .string ⟨#[118, 111, 108]⟩, .string ⟨#[105, 112]⟩, .string ⟨#[118, 111, 108, 50]⟩] 9 wn) := HA.out.bt hb HA.out.lt (by omega)
   refine hK.out _ _ HA.out (fun hS => ?_)
   clear hK K hb hs hr
   rw [← HZZ.out]
   exact st310.out _ _ _ _ _ _ hv1 hv2 hv3 hA HA hhd HR HB HZ _ (by kernel_rfl)
  ·go_simp
   have hba : Below wc.heap.size wc (wc.alloc (.cells #[.int .i64 0, .int .i64 0, .int .i64 0, .int .i64 1, .int .i64 3, .int .i64 8] 3)) := (Below.refl _ _).alloc (Nat.le_refl _) _
   have HBb : Hid (Blk wc.heap.size #[.int .i64 0, .int .i64 0, .int .i64 0, .int .i64 1, .int .i64 3, .int .i64 8] 3 (wc.alloc (.cells #[.int .i64 0, .int .i64 0, .int .i64 0, .int .i64 1, .int .i64 3, .int .i64 8] 3))) := Blk.alloc _ _ _
   have hB : w.heap.size < wc.heap.size := HZ.out.lt
   have hpc := HR.out.lt
   replace HR : Hid (RdS p (k0 + 2) (wc.alloc (.cells #[.int .i64 0, .int .i64 0, .int .i64 0, .int .i64 1, .int .i64 3, .int .i64 8] 3))) := HR.out.below hba hpc
   replace HB : Hid (Bt p w.heap.size w (wc.alloc (.cells #[.int .i64 0, .int .i64 0, .int .i64 0, .int .i64 1, .int .i64 3, .int .i64 8] 3))) := HB.out.trans (Bt.of_below (hba.mono HB.out.size))
   replace HZ : Hid (Blk w.heap.size #[.string ⟨#[]⟩, .int .i64 0, .string ⟨#[]⟩, .int .i64 0, .int .i64 0, .int .i64 0, .int .i64 0] 36 (wc.alloc (.cells #[.int .i64 0, .int .i64 0, .int .i64 0, .int .i64 1, .int .i64 3, .int .i64 8] 3))) := HZ.out.below hba HZ.out.lt
   replace HA : Hid (Blk bA #[.string ⟨#[]⟩, .string ⟨#[118, 111, 108]⟩, .string ⟨#[105, 112]⟩, .string ⟨#[118, 111, 108, 50]⟩] 9 (wc.alloc (.cells #[.int .i64 0, .int .i64 0, .int .i64 0, .int .i64 1, .int .i64 3, .int .i64 8] 3))) := HA.out.below hba HA.out.lt
   refine hK.out _ _ HA.out (fun hS => ?_)
   clear hK K hba hpc hS
   generalize wc.alloc (Obj.cells #[.int .i64 0, .int .i64 0, .int .i64 0, .int .i64 1, .int .i64 3, .int .i64 8] 3) = wn at *
   generalize wc.heap.size = bB at *
   refine wpAnyH_mono (S' := fun wy => Blk bA #[.string ⟨#[]⟩, .string ⟨#[118, 111, 108]⟩, .string ⟨#[105, 112]⟩, .string ⟨#[118, 111, 108, 50]⟩] 9 wy ∧ Blk bB #[.int .i64 0, .int .i64 0, .int .i64 0, .int .i64 1, .int .i64 3, .int .i64 8] 3 wy) (fun _ h => h.1) _ _ _ _ ?_
   have hS : (fun wy => Blk bA #[.string ⟨#[]⟩, .string ⟨#[118, 111, 108]⟩, .string ⟨#[105, 112]⟩, .string ⟨#[118, 111, 108, 50]⟩] 9 wy ∧ Blk bB #[.int .i64 0, .int .i64 0, .int .i64 0, .int .i64 1, .int .i64 3, .int .i64 8] 3 wy) wn := ⟨HA.out, HBb.out⟩
   rw [← HZZ.out]
   exact st211.out _ _ _ _ _ _ hv1 hv2 hA HA hB HBb hhd HR HB HZ _ (by kernel_rfl)
 have st201 : Hid (∀ (v1 : Nat) (v2 : Nat) (bB : Nat) (wc : World), (v1 : Int) < 3 → (v2 : Int) < 4 → w.heap.size < bB → Hid (Blk bB #[.int .i64 0, .int .i64 0, .int .i64 0, .int .i64 1, .int .i64 3, .int .i64 8] 3 wc) → Hid (RdS p (k0 + 2) wc) → Hid (Bt p w.heap.size w wc) → Hid (Blk w.heap.size #[.string ⟨#[]⟩, .int .i64 0, .string ⟨#[]⟩, .int .i64 0, .int .i64 0, .int .i64 0, .int .i64 0] 36 wc) → ∀ L, L = #[true, true, true, true, false, true, true, false, false, true, false, true, false, true, true, false, false, false, true, false, false, false] → Z (fun wy => Blk bB #[.int .i64 0, .int .i64 0, .int .i64 0, .int .i64 1, .int .i64 3, .int .i64 8] 3 wy) 11 L ⟨#[.pointer (some ⟨p, 0, none⟩), .string s, undef, undef, .pointer (some ⟨w.heap.size, 0, none⟩), .string s, .pointer (some ⟨p, 0, none⟩), .int .i64 (v1 : Int), .int .i64 (1 + (v1 : Int)), undef, .pointer (some ⟨p, 0, none⟩), .int .i64 (v2 : Int), undef, undef, .pointer (some ⟨p, 0, none⟩), undef, .pointer (some ⟨p, 0, none⟩), undef, .slice (some ⟨bB, 0, none⟩) 6 6, .pointer (some ⟨p, 0, none⟩), undef, undef, undef, .pointer (some ⟨p, 0, none⟩), undef, undef], []⟩ wc) := by
  intro v1 v2 bB wc hv1 hv2 hB HBb HR HB HZ L hL
  subst hL
  rw [HZZ.out]
  refine wpAnyH_ready (rs := [4, 10]) (by kernel_rfl) (by simp) (AllReadyH.cons (o := ⟨some 9, _, _, _, _, none⟩) rfl (fun K hK => ?_) (AllReadyH.cons (o := ⟨some 15, _, _, _, _, none⟩) rfl (fun K hK => ?_) AllReadyH.nil))
  ·go_simp
   have hba : Below wc.heap.size wc (wc.alloc (.cells #[.string ⟨#[]⟩, .string ⟨#[118, 111, 108]⟩, .string ⟨#[105, 112]⟩, .string ⟨#[118, 111, 108, 50]⟩] 9)) := (Below.refl _ _).alloc (Nat.le_refl _) _
   have HA : Hid (Blk wc.heap.size #[.string ⟨#[]⟩, .string ⟨#[118, 111, 108]⟩, .string ⟨#[105, 112]⟩, .string ⟨#[118, 111, 108, 50]⟩] 9 (wc.alloc (.cells #[.string ⟨#[]⟩, .string ⟨#[118, 111, 108]⟩, .string ⟨#[105, 112]⟩, .string ⟨#[118, 111, 108, 50]⟩] 9))) := Blk.alloc _ _ _
   have hA : w.heap.size < wc.heap.size := HZ.out.lt
   have hpc := HR.out.lt
   replace HR : Hid (RdS p (k0 + 2) (wc.alloc (.cells #[.string ⟨#[]⟩, .string ⟨#[118, 111, 108]⟩, .string ⟨#[105, 112]⟩, .string ⟨#[118, 111, 108, 50]⟩] 9))) := HR.out.below hba hpc
   replace HB : Hid (Bt p w.heap.size w (wc.alloc (.cells #[.string ⟨#[]⟩, .string ⟨#[118, 111, 108]⟩, .string ⟨#[105, 112]⟩, .string ⟨#[118, 111, 108, 50]⟩] 9))) := HB.out.trans (Bt.of_below (hba.mono HB.out.size))
   replace HZ : Hid (Blk w.heap.size #[.string ⟨#[]⟩, .int .i64 0, .string ⟨#[]⟩, .int .i64 0, .int .i64 0, .int .i64 0, .int .i64 0] 36 (wc.alloc (.cells #[.string ⟨#[]⟩, .string ⟨#[118, 111, 108]⟩, .string ⟨#[105, 112]⟩, .string ⟨#[118, 111, 108, 50]⟩] 9))) := HZ.out.below hba HZ.out.lt
   replace HBb : Hid (Blk bB #[.int .i64 0, .int .i64 0, .int .i64 0, .int .i64 1, .int .i64 3, .int .i64 8] 3 (wc.alloc (.cells #[.string ⟨#[]⟩, .string ⟨#[118, 111, 108]⟩, .string ⟨#[105, 112]⟩, .string ⟨#[118, 111, 108, 50]⟩] 9))) := HBb.out.below hba HBb.out.lt
   refine hK.out _ _ HBb.out (fun hS => ?_)
   clear hK K hba hpc hS
   generalize wc.alloc (Obj.cells #[.string ⟨#[]⟩, .string ⟨#[118, 111, 108]⟩, .string ⟨#[105, 112]⟩, .string ⟨#[118, 111, 108, 50]⟩] 9) = wn at *
   generalize wc.heap.size = bA at *
   refine wpAnyH_mono (S' := fun wy => Blk bA #[.string ⟨#[]⟩, .string ⟨#[118, 111, 108]⟩, .string ⟨#[105, 112]⟩, .string ⟨#[118, 111, 108, 50]⟩] 9 wy ∧ Blk bB #[.int .i64 0, .int .i64 0, .int .i64 0, .int .i64 1, .int .i64 3, .int .i64 8] 3 wy) (fun _ h => h.2) _ _ _ _ ?_
   have hS : (fun wy => Blk bA #[.string ⟨#[]⟩, .string ⟨#[118, 111, 108]⟩, .string ⟨#[105, 112]⟩, .string ⟨#[118, 111, 108, 50]⟩] 9 wy ∧ Blk bB #[.int .i64 0, .int .i64 0, .int .i64 0, .int .i64 1, .int .i64 3, .int .i64 8] 3 wy) wn := ⟨HA.out, HBb.out⟩
   obtain ⟨hd, hhx, hhd⟩ := holdAt v2 hv2
   refine ty 7 ⟨some 12, _, _, _, _, none⟩ (.pointer (some ⟨bA, v2, none⟩)) rfl (by rfl) ?_ hS ?_
   ·intro wy hy
    clear hy
    first | (go_simp; done) | (go_simp; omega) | (go_simp; intro hh; omega)
   simp only [pA, pB, pC, pD]
   refine ty 8 ⟨some 13, _, _, _, _, none⟩ (.string hd) rfl (by rfl) ?_ hS ?_
   ·intro wy hy
    have h := hy
    have h0 := h.1.cell (o := v2) (v := .string hd) hhx
    clear hy
    go_simp
   simp only [pA, pB, pC, pD]
   rw [← HZZ.out]
   exact st211.out _ _ _ _ _ _ hv1 hv2 hA HA hB HBb hhd HR HB HZ _ (by kernel_rfl)
  ·go_simp
   refine (pick_rd p (k0 + 2) 4 _ HR.out (by omega) (by omega) (by omega)).mono ?_
   rintro e wn ⟨v3, rfl, hv3, hr, hb, hs⟩
   replace HR : Hid (RdS p (k0 + 3) wn) := hr
   replace HB : Hid (Bt p w.heap.size w wn) := HB.out.trans (hb.mono HB.out.size)
   replace HZ : Hid (Blk w.heap.size #[.string ⟨#[]⟩, .int .i64 0, .string ⟨#[]⟩, .int .i64 0, .int .i64 0, .int .i64 0, .int .i64 0] 36 wn) := HZ.out.bt hb HZ.out.lt (by omega)
   replace HBb : Hid (Blk bB #[.int .i64 0, .int .i64 0, .int .i64 0, .int .i64 1, .int .i64 3, .int .i64 8] 3 wn) := HBb.out.bt hb HBb.out.lt (by omega)
   refine hK.out _ _ HBb.out (fun hS => ?_)
   clear hK K hb hs hr
   rw [← HZZ.out]
   exact st301.out _ _ _ _ _ hv1 hv2 hv3 hB HBb HR HB HZ _ (by kernel_rfl)
 have st200 : Hid (∀ (v1 : Nat) (v2 : Nat) (wc : World), (v1 : Int) < 3 → (v2 : Int) < 4 → Hid (RdS p (k0 + 2) wc) → Hid (Bt p w.heap.size w wc) → Hid (Blk w.heap.size #[.string ⟨#[]⟩, .int .i64 0, .string ⟨#[]⟩, .int .i64 0, .int .i64 0, .int .i64 0, .int .i64 0] 36 wc) → ∀ L, L = #[true, true, true, true, false, true, true, false, false, true, false, true, false, false, true, false, false, false, true, false, false, false] → Z (fun _ => True) 12 L ⟨#[.pointer (some ⟨p, 0, none⟩), .string s, undef, undef, .pointer (some ⟨w.heap.size, 0, none⟩), .string s, .pointer (some ⟨p, 0, none⟩), .int .i64 (v1 : Int), .int .i64 (1 + (v1 : Int)), undef, .pointer (some ⟨p, 0, none⟩), .int .i64 (v2 : Int), undef, undef, .pointer (some ⟨p, 0, none⟩), undef, .pointer (some ⟨p, 0, none⟩), undef, undef, .pointer (some ⟨p, 0, none⟩), undef, undef, undef, .pointer (some ⟨p, 0, none⟩), undef, undef], []⟩ wc) := by
  intro v1 v2 wc hv1 hv2 HR HB HZ L hL
  subst hL
  rw [HZZ.out]
  refine wpAnyH_ready (rs := [4, 10, 13]) (by kernel_rfl) (by simp) (AllReadyH.cons (o := ⟨some 9, _, _, _, _, none⟩) rfl (fun K hK => ?_) (AllReadyH.cons (o := ⟨some 15, _, _, _, _, none⟩) rfl (fun K hK => ?_) (AllReadyH.cons (o := ⟨some 18, _, _, _, _, none⟩) rfl (fun K hK => ?_) AllReadyH.nil)))
  ·go_simp
   have hba : Below wc.heap.size wc (wc.alloc (.cells #[.string ⟨#[]⟩, .string ⟨#[118, 111, 108]⟩, .string ⟨#[105, 112]⟩, .string ⟨#[118, 111, 108, 50]⟩] 9)) := (Below.refl _ _).alloc (Nat.le_refl _) _
   have HA : Hid (Blk wc.heap.size #[.string ⟨#[]⟩, .string ⟨#[118, 111, 108]⟩, .string ⟨#[105, 112]⟩, .string ⟨#[118, 111, 108, 50]⟩] 9 (wc.alloc (.cells #[.string ⟨#[]⟩, .string ⟨#[118, 111, 108]⟩, .string ⟨#[105, 112]⟩, .string ⟨#[118, 111, 108, 50]⟩] 9))) := Blk.alloc _ _ _
   have hA : w.heap.size < wc.heap.size := HZ.out.lt
   have hpc := HR.out.lt
   replace HR : Hid (RdS p (k0 + 2) (wc.alloc (.cells #[.string ⟨#[]⟩, .string ⟨#[118, 111, 108]⟩, .string ⟨#[105, 112]⟩, .string ⟨#[118, 111, 108, 50]⟩] 9))) := HR.out.below hba hpc
   replace HB : Hid (Bt p w.heap.size w (wc.alloc (.cells #[.string ⟨#[]⟩, .string ⟨#[118, 111, 108]⟩, .string ⟨#[105, 112]⟩, .string ⟨#[118, 111, 108, 50]⟩] 9))) := HB.out.trans (Bt.of_below (hba.mono HB.out.size))
   replace HZ : Hid (Blk w.heap.size #[.string ⟨#[]⟩, .int .i64 0, .string ⟨#[]⟩, .int .i64 0, .int .i64 0, .int .i64 0, .int .i64 0] 36 (wc.alloc (.cells #[.string ⟨#[]⟩, .string ⟨#[118, 111, 108]⟩, .string ⟨#[105, 112]⟩, .string ⟨#[118, 111, 108, 50]⟩] 9))) := HZ.out.below hba HZ.out.lt
   refine hK.out _ _ trivial (fun hS => ?_)
   clear hK K hba hpc hS
   generalize wc.alloc (Obj.cells #[.string ⟨#[]⟩, .string ⟨#[118, 111, 108]⟩, .string ⟨#[105, 112]⟩, .string ⟨#[118, 111, 108, 50]⟩] 9) = wn at *
   generalize wc.heap.size = bA at *
   refine wpAnyH_mono (S' := fun wy => Blk bA #[.string ⟨#[]⟩, .string ⟨#[118, 111, 108]⟩, .string ⟨#[105, 112]⟩, .string ⟨#[118, 111, 108, 50]⟩] 9 wy) (fun _ h => trivial) _ _ _ _ ?_
   have hS : (fun wy => Blk bA #[.string ⟨#[]⟩, .string ⟨#[118, 111, 108]⟩, .string ⟨#[105, 112]⟩, .string ⟨#[118, 111, 108, 50]⟩] 9 wy) wn := HA.out
   obtain ⟨hd, hhx, hhd⟩ := holdAt v2 hv2
   refine ty 7 ⟨some 12, _, _, _, _, none⟩ (.pointer (some ⟨bA, v2, none⟩)) rfl (by rfl) ?_ hS ?_
   ·intro wy hy
    clear hy
    first | (go_simp; done) | (go_simp; omega) | (go_simp; intro hh; omega)
   simp only [pA, pB, pC, pD]
   refine ty 8 ⟨some 13, _, _, _, _, none⟩ (.string hd) rfl (by rfl) ?_ hS ?_
   ·intro wy hy
    have h := hy
    have h0 := h.cell (o := v2) (v := .string hd) hhx
    clear hy
    go_simp
   simp only [pA, pB, pC, pD]
   rw [← HZZ.out]
   exact st210.out _ _ _ _ _ hv1 hv2 hA HA hhd HR HB HZ _ (by kernel_rfl)
  ·go_simp
   refine (pick_rd p (k0 + 2) 4 _ HR.out (by omega) (by omega) (by omega)).mono ?_
   rintro e wn ⟨v3, rfl, hv3, hr, hb, hs⟩
   replace HR : Hid (RdS p (k0 + 3) wn) := hr
   replace HB : Hid (Bt p w.heap.size w wn) := HB.out.trans (hb.mono HB.out.size)
   replace HZ : Hid (Blk w.heap.size #[.string ⟨#[]⟩, .int .i64 0, .string ⟨#[]⟩, .int .i64 0, .int .i64 0, .int .i64 0, .int .i64 0] 36 wn) := HZ.out.bt hb HZ.out.lt (by omega)
   refine hK.out _ _ trivial (fun hS => ?_)
   clear hK K hb hs hr
   rw [← HZZ.out]
   exact st300.out _ _ _ _ hv1 hv2 hv3 HR HB HZ _ (by kernel_rfl)
  ·go_simp
   have hba : Below wc.heap.size wc (wc.alloc (.cells #[.int .i64 0, .int .i64 0, .int .i64 0, .int .i64 1, .int .i64 3, .int .i64 8] 3)) := (Below.refl _ _).alloc (Nat.le_refl _) _
   have HBb : Hid (Blk wc.heap.size #[.int .i64 0, .int .i64 0, .int .i64 0, .int .i64 1, .int .i64 3, .int .i64 8] 3 (wc.alloc (.cells #[.int .i64 0, .int .i64 0, .int .i64 0, .int .i64 1, .int .i64 3, .int .i64 8] 3))) := Blk.alloc _ _ _
   have hB : w.heap.size < wc.heap.size := HZ.out.lt
   have hpc := HR.out.lt
   replace HR : Hid (RdS p (k0 + 2) (wc.alloc (.cells #[.int .i64 0, .int .i64 0, .int .i64 0, .int .i64 1, .int .i64 3, .int .i64 8] 3))) := HR.out.below hba hpc
   replace HB : Hid (Bt p w.heap.size w (wc.alloc (.cells #[.int .i64 0, .int .i64 0, .int .i64 0, .int .i64 1, .int .i64 3, .int .i64 8] 3))) := HB.out.trans (Bt.of_below (hba.mono HB.out.size))
   replace HZ : Hid (Blk w.heap.size #[.string ⟨#[]⟩, .int .i64 0, .string ⟨#[]⟩, .int .i64 0, .int .i64 0, .int .i64 0, .int .i64 0] 36 (wc.alloc (.cells #[.int .i64 0, .int .i64 0, .int .i64 0, .int .i64 1, .int .i64 3, .int .i64 8] 3))) := HZ.out.below hba HZ.out.lt
   refine hK.out _ _ trivial (fun hS => ?_)
   clear hK K hba hpc hS
   generalize wc.alloc (Obj.cells #[.int .i64 0, .int .i64 0, .int .i64 0, .int .i64 1, .int .i64 3, .int .i64 8] 3) = wn at *
   generalize wc.heap.size = bB at *
   refine wpAnyH_mono (S' := fun wy => Blk bB #[.int .i64 0, .int .i64 0, .int .i64 0, .int .i64 1, .int .i64 3, .int .i64 8] 3 wy) (fun _ h => trivial) _ _ _ _ ?_
   have hS : (fun wy => Blk bB #[.int .i64 0, .int .i64 0, .int .i64 0, .int .i64 1, .int .i64 3, .int .i64 8] 3 wy) wn := HBb.out
   rw [← HZZ.out]
   exact st201.out _ _ _ _ hv1 hv2 hB HBb HR HB HZ _ (by kernel_rfl)
 have st111 : Hid (∀ (v1 : Nat) (bA : Nat) (bB : Nat) (wc : World), (v1 : Int) < 3 → w.heap.size < bA → Hid (Blk bA #[.string ⟨#[]⟩, .string ⟨#[118, 111, 108]⟩, .string ⟨#[105, 112]⟩, .string ⟨#[118, 111, 108, 50]⟩] 9 wc) → w.heap.size < bB → Hid (Blk bB #[.int .i64 0, .int .i64 0, .int .i64 0, .int .i64 1, .int .i64 3, .int .i64 8] 3 wc) → Hid (RdS p (k0 + 1) wc) → Hid (Bt p w.heap.size w wc) → Hid (Blk w.heap.size #[.string ⟨#[]⟩, .int .i64 0, .string ⟨#[]⟩, .int .i64 0, .int .i64 0, .int .i64 0, .int .i64 0] 36 wc) → ∀ L, L = #[true, true, true, true, true, true, false, false, false, true, false, true, false, true, true, false, false, false, true, false, false, false] → Z (fun wy => Blk bA #[.string ⟨#[]⟩, .string ⟨#[118, 111, 108]⟩, .string ⟨#[105, 112]⟩, .string ⟨#[118, 111, 108, 50]⟩] 9 wy ∧ Blk bB #[.int .i64 0, .int .i64 0, .int .i64 0, .int .i64 1, .int .i64 3, .int .i64 8] 3 wy) 11 L ⟨#[.pointer (some ⟨p, 0, none⟩), .string s, undef, undef, .pointer (some ⟨w.heap.size, 0, none⟩), .string s, .pointer (some ⟨p, 0, none⟩), .int .i64 (v1 : Int), .int .i64 (1 + (v1 : Int)), .slice (some ⟨bA, 0, none⟩) 4 4, .pointer (some ⟨p, 0, none⟩), undef, undef, undef, .pointer (some ⟨p, 0, none⟩), undef, .pointer (some ⟨p, 0, none⟩), undef, .slice (some ⟨bB, 0, none⟩) 6 6, .pointer (some ⟨p, 0, none⟩), undef, undef, undef, .pointer (some ⟨p, 0, none⟩), undef, undef], []⟩ wc) := by
  intro v1 bA bB wc hv1 hA HA hB HBb HR HB HZ L hL
  subst hL
  rw [HZZ.out]
  refine rd1 6 ⟨some 11, _, _, _, _, none⟩ rfl (fun K hK => ?_)
  ·go_simp
   refine (pick_rd p (k0 + 1) 4 _ HR.out (by omega) (by omega) (by omega)).mono ?_
   rintro e wn ⟨v2, rfl, hv2, hr, hb, hs⟩
   replace HR : Hid (RdS p (k0 + 2) wn) := hr
   replace HB : Hid (Bt p w.heap.size w wn) := HB.out.trans (hb.mono HB.out.size)
   replace HZ : Hid (Blk w.heap.size #[.string ⟨#[]⟩, .int .i64 0, .string ⟨#[]⟩, .int .i64 0, .int .i64 0, .int .i64 0, .int .i64 0] 36 wn) := HZ.out.bt hb HZ.out.lt (by omega)
   replace HA : Hid (Blk bA #[.string ⟨#[]⟩, .string ⟨#[118, 111, 108]⟩, .string ⟨#[105, 112]⟩, .string ⟨#[118, 111, 108, 50]⟩] 9 wn) := HA.out.bt hb HA.out.lt (by omega)
   replace HBb : Hid (Blk bB #[.int .i64 0, .int .i64 0, .int .i64 0, .int .i64 1, .int .i64 3, .int .i64 8] 3 wn) := HBb.out.bt hb HBb.out.lt (by omega)
   refine hK.out _ _ ⟨HA.out, HBb.out⟩ (fun hS => ?_)
   clear hK K hb hs hr
   obtain ⟨hd, hhx, hhd⟩ := holdAt v2 hv2
   refine ty 7 ⟨some 12, _, _, _, _, none⟩ (.pointer (some ⟨bA, v2, none⟩)) rfl (by rfl) ?_ hS ?_
   ·intro wy hy
    clear hy
    first | (go_simp; done) | (go_simp; omega) | (go_simp; intro hh; omega)
   simp only [pA, pB, pC, pD]
   refine ty 8 ⟨some 13, _, _, _, _, none⟩ (.string hd) rfl (by rfl) ?_ hS ?_
   ·intro wy hy
    have h := hy
    have h0 := h.1.cell (o := v2) (v := .string hd) hhx
    clear hy
    go_simp
   simp only [pA, pB, pC, pD]
   rw [← HZZ.out]
   exact st211.out _ _ _ _ _ _ hv1 hv2 hA HA hB HBb hhd HR HB HZ _ (by kernel_rfl)
 have st110 : Hid (∀ (v1 : Nat) (bA : Nat) (wc : World), (v1 : Int) < 3 → w.heap.size < bA → Hid (Blk bA #[.string ⟨#[]⟩, .string ⟨#[118, 111, 108]⟩, .string ⟨#[105, 112]⟩, .string ⟨#[118, 111, 108, 50]⟩] 9 wc) → Hid (RdS p (k0 + 1) wc) → Hid (Bt p w.heap.size w wc) → Hid (Blk w.heap.size #[.string ⟨#[]⟩, .int .i64 0, .string ⟨#[]⟩, .int .i64 0, .int .i64 0, .int .i64 0, .int .i64 0] 36 wc) → ∀ L, L = #[true, true, true, true, true, true, false, false, false, true, false, true, false, false, true, false, false, false, true, false, false, false] → Z (fun wy => Blk bA #[.string ⟨#[]⟩, .string ⟨#[118, 111, 108]⟩, .string ⟨#[105, 112]⟩, .string ⟨#[118, 111, 108, 50]⟩] 9 wy) 12 L ⟨#[.pointer (some ⟨p, 0, none⟩), .string s, undef, undef, .pointer (some ⟨w.heap.size, 0, none⟩), .string s, .pointer (some ⟨p, 0, none⟩), .int .i64 (v1 : Int), .int .i64 (1 + (v1 : Int)), .slice (some ⟨bA, 0, none⟩) 4 4, .pointer (some ⟨p, 0, none⟩), undef, undef, undef, .pointer (some ⟨p, 0, none⟩), undef, .pointer (some ⟨p, 0, none⟩), undef, undef, .pointer (some ⟨p, 0, none⟩), undef, undef, undef, .pointer (some ⟨p, 0, none⟩), undef, undef], []⟩ wc) := by
  intro v1 bA wc hv1 hA HA HR HB HZ L hL
  subst hL
  rw [HZZ.out]
  refine wpAnyH_ready (rs := [6, 13]) (by kernel_rfl) (by simp) (AllReadyH.cons (o := ⟨some 11, _, _, _, _, none⟩) rfl (fun K hK => ?_) (AllReadyH.cons (o := ⟨some 18, _, _, _, _, none⟩) rfl (fun K hK => ?_) AllReadyH.nil))
  ·go_simp
   refine (pick_rd p (k0 + 1) 4 _ HR.out (by omega) (by omega) (by omega)).mono ?_
   rintro e wn ⟨v2, rfl, hv2, hr, hb, hs⟩
   replace HR : Hid (RdS p (k0 + 2) wn) := hr
   replace HB : Hid (Bt p w.heap.size w wn) := HB.out.trans (hb.mono HB.out.size)
   replace HZ : Hid (Blk w.heap.size #[.string ⟨#[]⟩, .int .i64 0, .string ⟨#[]⟩, .int .i64 0, .int .i64 0, .int .i64 0, .int .i64 0] 36 wn) := HZ.out.bt hb HZ.out.lt (by omega)
   replace HA : Hid (Blk bA #[.string ⟨#[]⟩, .string ⟨#[118, 111, 108]⟩, .string ⟨#[105, 112]⟩, .string ⟨#[118, 111, 108, 50]⟩] 9 wn) := HA.out.bt hb HA.out.lt (by omega)
   refine hK.out _ _ HA.out (fun hS => ?_)
   clear hK K hb hs hr
   obtain ⟨hd, hhx, hhd⟩ := holdAt v2 hv2
   refine ty 7 ⟨some 12, _, _, _, _, none⟩ (.pointer (some ⟨bA, v2, none⟩)) rfl (by rfl) ?_ hS ?_
   ·intro wy hy
    clear hy
    first | (go_simp; done) | (go_simp; omega) | (go_simp; intro hh; omega)
   simp only [pA, pB, pC, pD]
   refine ty 8 ⟨some 13, _, _, _, _, none⟩ (.string hd) rfl (by rfl) ?_ hS ?_
   ·intro wy hy
    have h := hy
    have h0 := h.cell (o := v2) (v := .string hd) hhx
    clear hy
    go_simp
   simp only [pA, pB, pC, pD]
   rw [← HZZ.out]
   exact st210.out _ _ _ _ _ hv1 hv2 hA HA hhd HR HB HZ _ (by kernel_rfl)
  ·go_simp
   have hba : Below wc.heap.size wc (wc.alloc (.cells #[.int .i64 0, .int .i64 0, .int .i64 0, .int .i64 1, .int .i64 3, .int .i64 8] 3)) := (Below.refl _ _).alloc (Nat.le_refl _) _
   have HBb : Hid (Blk wc.heap.size #[.int .i64 0, .int .i64 0, .int .i64 0, .int .i64 1, .int .i64 3, .int .i64 8] 3 (wc.alloc (.cells #[.int .i64 0, .int .i64 0, .int .i64 0, .int .i64 1, .int .i64 3, .int .i64 8] 3))) := Blk.alloc _ _ _
   have hB : w.heap.size < wc.heap.size := HZ.out.lt
   have hpc := HR.out.lt
   replace HR : Hid (RdS p (k0 + 1) (wc.alloc (.cells #[.int .i64 0, .int .i64 0, .int .i64 0, .int .i64 1, .int .i64 3, .int .i64 8] 3))) := HR.out.below hba hpc
   replace HB : Hid (Bt p w.heap.size w (wc.alloc (.cells #[.int .i64 0, .int .i64 0, .int .i64 0, .int .i64 1, .int .i64 3, .int .i64 8] 3))) := HB.out.trans (Bt.of_below (hba.mono HB.out.size))
   replace HZ : Hid (Blk w.heap.size #[.string ⟨#[]⟩, .int .i64 0, .string ⟨#[]⟩, .int .i64 0, .int .i64 0, .int .i64 0, .int .i64 0] 36 (wc.alloc (.cells #[.int .i64 0, .int .i64 0, .int .i64 0, .int .i64 1, .int .i64 3, .int .i64 8] 3))) := HZ.out.below hba HZ.out.lt
   replace HA : Hid (Blk bA #[.string ⟨#[]⟩, .string ⟨#[118, 111, 108]⟩, .string ⟨#[105, 112]⟩, .string ⟨#[118, 111, 108, 50]⟩] 9 (wc.alloc (.cells #[.int .i64 0, .int .i64 0, .int .i64 0, .int .i64 1, .int .i64 3, .int .i64 8] 3))) := HA.out.below hba HA.out.lt
   refine hK.out _ _ HA.out (fun hS => ?_)
   clear hK K hba hpc hS
   generalize wc.alloc (Obj.cells #[.int .i64 0, .int .i64 0, .int .i64 0, .int .i64 1, .int .i64 3, .int .i64 8] 3) = wn at *
   generalize wc.heap.size = bB at *
   refine wpAnyH_mono (S' := fun wy => Blk bA #[.string ⟨#[]⟩, .string ⟨#[118, 111, 108]⟩, .string ⟨#[105, 112]⟩, .string ⟨#[118, 111, 108, 50]⟩] 9 wy ∧ Blk bB #[.int .i64 0, .int .i64 0, .int .i64 0, .int .i64 1, .int .i64 3, .int .i64 8] 3 wy) (fun _ h => h.1) _ _ _ _ ?_
   have hS : (fun wy => Blk bA #[.string ⟨#[]⟩, .string ⟨#[118, 111, 108]⟩, .string ⟨#[105, 112]⟩, .string ⟨#[118, 111, 108, 50]⟩] 9 wy ∧ Blk bB #[.int .i64 0, .int .i64 0, .int .i64 0, .int .i64 1, .int .i64 3, .int .i64 8] 3 wy) wn := ⟨HA.out, HBb.out⟩
   rw [← HZZ.out]
   exact st111.out _ _ _ _ hv1 hA HA hB HBb HR HB HZ _ (by kernel_rfl)
 have st101 : Hid (∀ (v1 : Nat) (bB : Nat) (wc : World), (v1 : Int) < 3 → w.heap.size < bB → Hid (Blk bB #[.int .i64 0, .int .i64 0, .int .i64 0, .int .i64 1, .int .i64 3, .int .i64 8] 3 wc) → Hid (RdS p (k0 + 1) wc) → Hid (Bt p w.heap.size w wc) → Hid (Blk w.heap.size #[.string ⟨#[]⟩, .int .i64 0, .string ⟨#[]⟩, .int .i64 0, .int .i64 0, .int .i64 0, .int .i64 0] 36 wc) → ∀ L, L = #[true, true, true, true, false, true, false, false, false, true, false, true, false, true, true, false, false, false, true, false, false, false] → Z (fun wy => Blk bB #[.int .i64 0, .int .i64 0, .int .i64 0, .int .i64 1, .int .i64 3, .int .i64 8] 3 wy) 12 L ⟨#[.pointer (some ⟨p, 0, none⟩), .string s, undef, undef, .pointer (some ⟨w.heap.size, 0, none⟩), .string s, .pointer (some ⟨p, 0, none⟩), .int .i64 (v1 : Int), .int .i64 (1 + (v1 : Int)), undef, .pointer (some ⟨p, 0, none⟩), undef, undef, undef, .pointer (some ⟨p, 0, none⟩), undef, .pointer (some ⟨p, 0, none⟩), undef, .slice (some ⟨bB, 0, none⟩) 6 6, .pointer (some ⟨p, 0, none⟩), undef, undef, undef, .pointer (some ⟨p, 0, none⟩), undef, undef], []⟩ wc) := by
  intro v1 bB wc hv1 hB HBb HR HB HZ L hL
  subst hL
  rw [HZZ.out]
  refine wpAnyH_ready (rs := [4, 6]) (by kernel_rfl) (by simp) (AllReadyH.cons (o := ⟨some 9, _, _, _, _, none⟩) rfl (fun K hK => ?_) (AllReadyH.cons (o := ⟨some 11, _, _, _, _, none⟩) rfl (fun K hK => ?_) AllReadyH.nil))
  ·go_simp
   have hba : Below wc.heap.size wc (wc.alloc (.cells #[.string ⟨#[]⟩, .string ⟨#[118, 111, 108]⟩, .string ⟨#[105, 112]⟩, .string ⟨#[118, 111, 108, 50]⟩] 9)) := (Below.refl _ _).alloc (Nat.le_refl _) _
   have HA : Hid (Blk wc.heap.size #[.string ⟨#[]⟩, .string ⟨#[118, 111, 108]⟩, .string ⟨#[105, 112]⟩, .string ⟨#[118, 111, 108, 50]⟩] 9 (wc.alloc (.cells #[.string ⟨#[]⟩, .string ⟨#[118, 111, 108]⟩, .string ⟨#[105, 112]⟩, .string ⟨#[118, 111, 108, 50]⟩] 9))) := Blk.alloc _ _ _
   have hA : w.heap.size < wc.heap.size := HZ.out.lt
   have hpc := HR.out.lt
   replace HR : Hid (RdS p (k0 + 1) (wc.alloc (.cells #[.string ⟨#[]⟩, .string ⟨#[118, 111, 108]⟩, .string ⟨#[105, 112]⟩, .string ⟨#[118, 111, 108, 50]⟩] 9))) := HR.out.below hba hpc
   replace HB : Hid (Bt p w.heap.size w (wc.alloc (.cells #[.string ⟨#[]⟩, .string ⟨#[118, 111, 108]⟩, .string ⟨#[105, 112]⟩, .string ⟨#[118, 111, 108, 50]⟩] 9))) := HB.out.trans (Bt.of_below (hba.mono HB.out.size))
   replace HZ : Hid (Blk w.heap.size #[.string ⟨#[]⟩, .int .i64 0, .string ⟨#[]⟩, .int .i64 0, .int .i64 0, .int .i64 0, .int .i64 0] 36 (wc.alloc (.cells #[.string ⟨#[]⟩, .string ⟨#[118, 111, 108]⟩, .string ⟨#[105, 112]⟩, .string ⟨#[118, 111, 108, 50]⟩] 9))) := HZ.out.below hba HZ.out.lt
   replace HBb : Hid (Blk bB #[.int .i64 0, .int .i64 0, .int .i64 0, .int .i64 1, .int .i64 3, .int .i64 8] 3 (wc.alloc (.cells #[.string ⟨#[]⟩, .string ⟨#[118, 111, 108]⟩, .string ⟨#[105, 112]⟩, .string ⟨#[118, 111, 108, 50]⟩] 9))) := HBb.out.below hba HBb.out.lt
   refine hK.out _ _ HBb.out (fun hS => ?_)
   clear hK K hba hpc hS
   generalize wc.alloc (Obj.cells #[.string ⟨#[]⟩, .string ⟨#[118, 111, 108]⟩, .string ⟨#[105, 112]⟩, .string ⟨#[118, 111, 108, 50]⟩] 9) = wn at *
   generalize wc.heap.size = bA at *
   refine wpAnyH_mono (S' := fun wy => Blk bA #[.string ⟨#[]⟩, .string ⟨#[118, 111, 108]⟩, .string ⟨#[105, 112]⟩, .string ⟨#[118, 111, 108, 50]⟩] 9 wy ∧ Blk bB #[.int .i64 0, .int .i64 0, .int .i64 0, .int .i64 1, .int .i64 3, .int .i64 8] 3 wy) (fun _ h => h.2) _ _ _ _ ?_
   have hS : (fun wy => Blk bA #[.string ⟨#[]⟩, .string ⟨#[118, 111, 108]⟩, .string ⟨#[105, 112]⟩, .string ⟨#[118, 111, 108, 50]⟩] 9 wy ∧ Blk bB #[.int .i64 0, .int .i64 0, .int .i64 0, .int .i64 1, .int .i64 3, .int .i64 8] 3 wy) wn := ⟨HA.out, HBb.out⟩
   rw [← HZZ.out]
   exact st111.out _ _ _ _ hv1 hA HA hB HBb HR HB HZ _ (by kernel_rfl)
  ·go_simp
   refine (pick_rd p (k0 + 1) 4 _ HR.out (by omega) (by omega) (by omega)).mono ?_
   rintro e wn ⟨v2, rfl, hv2, hr, hb, hs⟩
   replace HR : Hid (RdS p (k0 + 2) wn) := hr
   replace HB : Hid (Bt p w.heap.size w wn) := HB.out.trans (hb.mono HB.out.size)
   replace HZ : Hid (Blk w.heap.size #[.string ⟨#[]⟩, .int .i64 0, .string ⟨#[]⟩, .int .i64 0, .int .i64 0, .int .i64 0, .int .i64 0] 36 wn) := HZ.out.bt hb HZ.out.lt (by omega)
   replace HBb : Hid (Blk bB #[.int .i64 0, .int .i64 0, .int .i64 0, .int .i64 1, .int .i64 3, .int .i64 8] 3 wn) := HBb.out.bt hb HBb.out.lt (by omega)
   refine hK.out _ _ HBb.out (fun hS => ?_)
   clear hK K hb hs hr
   rw [← HZZ.out]
   exact st201.out _ _ _ _ hv1 hv2 hB HBb HR HB HZ _ (by kernel_rfl)
 have st100 : Hid (∀ (v1 : Nat) (wc : World), (v1 : Int) < 3 → Hid (RdS p (k0 + 1) wc) → Hid (Bt p w.heap.size w wc) → Hid (Blk w.heap.size #[.string ⟨#[]⟩, .int .i64 0, .string ⟨#[]⟩, .int .i64 0, .int .i64 0, .int .i64 0, .int .i64 0] 36 wc) → ∀ L, L = #[true, true, true, true, false, true, false, false, false, true, false, true, false, false, true, false, false, false, true, false, false, false] → Z (fun _ => True) 13 L ⟨#[.pointer (some ⟨p, 0, none⟩), .string s, undef, undef, .pointer (some ⟨w.heap.size, 0, none⟩), .string s, .pointer (some ⟨p, 0, none⟩), .int .i64 (v1 : Int), .int .i64 (1 + (v1 : Int)), undef, .pointer (some ⟨p, 0, none⟩), undef, undef, undef, .pointer (some ⟨p, 0, none⟩), undef, .pointer (some ⟨p, 0, none⟩), undef, undef, .pointer (some ⟨p, 0, none⟩), undef, undef, undef, .pointer (some ⟨p, 0, none⟩), undef, undef], []⟩ wc) := by
  intro v1 wc hv1 HR HB HZ L hL
  subst hL
  rw [HZZ.out]
  refine wpAnyH_ready (rs := [4, 6, 13]) (by kernel_rfl) (by simp) (AllReadyH.cons (o := ⟨some 9, _, _, _, _, none⟩) rfl (fun K hK => ?_) (AllReadyH.cons (o := ⟨some 11, _, _, _, _, none⟩) rfl (fun K hK => ?_) (AllReadyH.cons (o := ⟨some 18, _, _, _, _, none⟩) rfl (fun K hK => ?_) AllReadyH.nil)))
  ·go_simp
   have hba : Below wc.heap.size wc (wc.alloc (.cells #[.string ⟨#[]⟩, .string ⟨#[118, 111, 108]⟩, .string ⟨#[105, 112]⟩, .string ⟨#[118, 111, 108, 50]⟩] 9)) := (Below.refl _ _).alloc (Nat.le_refl _) _
   have HA : Hid (Blk wc.heap.size #[.string ⟨#[]⟩, .string ⟨#[118, 111, 108]⟩, .string ⟨#[105, 112]⟩, .string ⟨#[118, 111, 108, 50]⟩] 9 (wc.alloc (.cells #[.string ⟨#[]⟩, .string ⟨#[118, 111, 108]⟩, .string ⟨#[105, 112]⟩, .string ⟨#[118, 111, 108, 50]⟩] 9))) := Blk.alloc _ _ _
   have hA : w.heap.size < wc.heap.size := HZ.out.lt
   have hpc := HR.out.lt
   replace HR : Hid (RdS p (k0 + 1) (wc.alloc (.cells #[.string ⟨#[]⟩, .string ⟨#[118, 111, 108]⟩, .string ⟨#[105, 112]⟩, .string ⟨#[118, 111, 108, 50]⟩] 9))) := HR.out.below hba hpc
   replace HB : Hid (Bt p w.heap.size w (wc.alloc (.cells #[.string ⟨#[]⟩, .string ⟨#[118, 111, 108]⟩, .string ⟨#[105, 112]⟩, .string ⟨#[118, 111, 108, 50]⟩] 9))) := HB.out.trans (Bt.of_below (hba.mono HB.out.size))
   replace HZ : Hid (Blk w.heap.size #[.string ⟨#[]⟩, .int .i64 0, .string ⟨#[]⟩, .int .i64 0, .int .i64 0, .int .i64 0, .int .i64 0] 36 (wc.alloc (.cells #[.string ⟨#[]⟩, .string ⟨#[118, 111, 108]⟩, .string ⟨#[105, 112]⟩, .string ⟨#[118, 111, 108, 50]⟩] 9))) := HZ.out.below hba HZ.out.lt
   refine hK.out _ _ trivial (fun hS => ?_)
   clear hK K hba hpc hS
   generalize wc.alloc (Obj.cells #[.string ⟨#[]⟩, .string ⟨#[118, 111, 108]⟩, .string ⟨#[105, 112]⟩, .string ⟨#[118, 111, 108, 50]⟩] 9) = wn at *
   generalize wc.heap.size = bA at *
   refine wpAnyH_mono (S' := fun wy => Blk bA #[.string ⟨#[]⟩, .string ⟨#[118, 111, 108]⟩, .string ⟨#[105, 112]⟩, .string ⟨#[118, 111, 108, 50]⟩] 9 wy) (fun _ h => trivial) _ _ _ _ ?_
   have hS : (fun wy => Blk bA #[.string ⟨#[]⟩, .string ⟨#[118, 111, 108]⟩, .string ⟨#[105, 112]⟩, .string ⟨#[118, 111, 108, 50]⟩] 9 wy) wn := HA.out
   rw [← HZZ.out]
   exact st110.out _ _ _ hv1 hA HA HR HB HZ _ (by kernel_rfl)
  ·go_simp
   refine (pick_rd p (k0 + 1) 4 _ HR.out (by omega) (by omega) (by omega)).mono ?_
   rintro e wn ⟨v2, rfl, hv2, hr, hb, hs⟩
   replace HR : Hid (RdS p (k0 + 2) wn) := hr
   replace HB : Hid (Bt p w.heap.size w wn) := HB.out.trans (hb.mono HB.out.size)
   replace HZ : Hid (Blk w.heap.size #[.string ⟨#[]⟩, .int .i64 0, .string ⟨#[]⟩, .int .i64 0, .int .i64 0, .int .i64 0, .int .i64 0] 36 wn) := HZ.out.bt hb HZ.out.lt (by omega)
   refine hK.out _ _ trivial (fun hS => ?_)
   clear hK K hb hs hr
   rw [← HZZ.out]
   exact st200.out _ _ _ hv1 hv2 HR HB HZ _ (by kernel_rfl)
  ·go_simp
   have hba : Below wc.heap.size wc (wc.alloc (.cells #[.int .i64 0, .int .i64 0, .int .i64 0, .int .i64 1, .int .i64 3, .int .i64 8] 3)) := (Below.refl _ _).alloc (Nat.le_refl _) _
   have HBb : Hid (Blk wc.heap.size #[.int .i64 0, .int .i64 0, .int .i64 0, .int .i64 1, .int .i64 3, .int .i64 8] 3 (wc.alloc (.cells #[.int .i64 0, .int .i64 0, .int .i64 0, .int .i64 1, .int .i64 3, .int .i64 8] 3))) := Blk.alloc _ _ _
   have hB : w.heap.size < wc.heap.size := HZ.out.lt
   have hpc := HR.out.lt
   replace HR : Hid (RdS p (k0 + 1) (wc.alloc (.cells #[.int .i64 0, .int .i64 0, .int .i64 0, .int .i64 1, .int .i64 3, .int .i64 8] 3))) := HR.out.below hba hpc
   replace HB : Hid (Bt p w.heap.size w (wc.alloc (.cells #[.int .i64 0, .int .i64 0, .int .i64 0, .int .i64 1, .int .i64 3, .int .i64 8] 3))) := HB.out.trans (Bt.of_below (hba.mono HB.out.size))
   replace HZ : Hid (Blk w.heap.size #[.string ⟨#[]⟩, .int .i64 0, .string ⟨#[]⟩, .int .i64 0, .int .i64 0, .int .i64 0, .int .i64 0] 36 (wc.alloc (.cells #[.int .i64 0, .int .i64 0, .int .i64 0, .int .i64 1, .int .i64 3, .int .i64 8] 3))) := HZ.out.below hba HZ.out.lt
   refine hK.out _ _ trivial (fun hS => ?_)
   clear hK K hba hpc hS
   generalize wc.alloc (Obj.cells #[.int .i64 0, .int .i64 0, .int .i64 0, .int .i64 1, .int .i64 3, .int .i64 8] 3) = wn at *
   generalize wc.heap.size = bB at *
   refine wpAnyH_mono (S' := fun wy => Blk bB #[.int .i64 0, .int .i64 0, .int .i64 0, .int .i64 1, .int .i64 3, .int .i64 8] 3 wy) (fun _ h => trivial) _ _ _ _ ?_
   have hS : (fun wy => Blk bB #[.int .i64 0, .int .i64 0, .int .i64 0, .int .i64 1, .int .i64 3, .int .i64 8] 3 wy) wn := HBb.out
   rw [← HZZ.out]
   exact st101.out _ _ _ hv1 hB HBb HR HB HZ _ (by kernel_rfl)
 have st011 : Hid (∀ (bA : Nat) (bB : Nat) (wc : World), w.heap.size < bA → Hid (Blk bA #[.string ⟨#[]⟩, .string ⟨#[118, 111, 108]⟩, .string ⟨#[105, 112]⟩, .string ⟨#[118, 111, 108, 50]⟩] 9 wc) → w.heap.size < bB → Hid (Blk bB #[.int .i64 0, .int .i64 0, .int .i64 0, .int .i64 1, .int .i64 3, .int .i64 8] 3 wc) → Hid (RdS p (k0 + 0) wc) → Hid (Bt p w.heap.size w wc) → Hid (Blk w.heap.size #[.string ⟨#[]⟩, .int .i64 0, .string ⟨#[]⟩, .int .i64 0, .int .i64 0, .int .i64 0, .int .i64 0] 36 wc) → ∀ L, L = #[true, true, false, false, true, true, false, false, false, true, false, true, false, true, true, false, false, false, true, false, false, false] → Z (fun wy => Blk bA #[.string ⟨#[]⟩, .string ⟨#[118, 111, 108]⟩, .string ⟨#[105, 112]⟩, .string ⟨#[118, 111, 108, 50]⟩] 9 wy ∧ Blk bB #[.int .i64 0, .int .i64 0, .int .i64 0, .int .i64 1, .int .i64 3, .int .i64 8] 3 wy) 13 L ⟨#[.pointer (some ⟨p, 0, none⟩), .string s, undef, undef, .pointer (some ⟨w.heap.size, 0, none⟩), .string s, .pointer (some ⟨p, 0, none⟩), undef, undef, .slice (some ⟨bA, 0, none⟩) 4 4, .pointer (some ⟨p, 0, none⟩), undef, undef, undef, .pointer (some ⟨p, 0, none⟩), undef, .pointer (some ⟨p, 0, none⟩), undef, .slice (some ⟨bB, 0, none⟩) 6 6, .pointer (some ⟨p, 0, none⟩), undef, undef, undef, .pointer (some ⟨p, 0, none⟩), undef, undef], []⟩ wc) := by
  intro bA bB wc hA HA hB HBb HR HB HZ L hL
  subst hL
  rw [HZZ.out]
  refine rd1 2 ⟨some 7, _, _, _, _, none⟩ rfl (fun K hK => ?_)
  ·go_simp
   refine (pick_rd p (k0 + 0) 3 _ HR.out (by omega) (by omega) (by omega)).mono ?_
   rintro e wn ⟨v1, rfl, hv1, hr, hb, hs⟩
   replace HR : Hid (RdS p (k0 + 1) wn) := hr
   replace HB : Hid (Bt p w.heap.size w wn) := HB.out.trans (hb.mono HB.out.size)
   replace HZ : Hid (Blk w.heap.size #[.string ⟨#[]⟩, .int .i64 0, .string ⟨#[]⟩, .int .i64 0, .int .i64 0, .int .i64 0, .int .i64 0] 36 wn) := HZ.out.bt hb HZ.out.lt (by omega)
   replace HA : Hid (Blk bA #[.string ⟨#[]⟩, .string ⟨#[118, 111, 108]⟩, .string ⟨#[105, 112]⟩, .string ⟨#[118, 111, 108, 50]⟩] 9 wn) := HA.out.bt hb HA.out.lt (by omega)
   replace HBb : Hid (Blk bB #[.int .i64 0, .int .i64 0, .int .i64 0, .int .i64 1, .int .i64 3, .int .i64 8] 3 wn) := HBb.out.bt hb HBb.out.lt (by omega)
   refine hK.out _ _ ⟨HA.out, HBb.out⟩ (fun hS => ?_)
   clear hK K hb hs hr
   refine ty 3 ⟨some 8, _, _, _, _, none⟩ (.int .i64 (1 + (v1 : Int))) rfl (by rfl) ?_ hS ?_
   ·intro wy hy
    clear hy
    first | (go_simp; done) | (go_simp; rw [IntKind.wrap_i64]; omega)
   simp only [pA, pB, pC, pD]
   rw [← HZZ.out]
   exact st111.out _ _ _ _ hv1 hA HA hB HBb HR HB HZ _ (by kernel_rfl)
 have st010 : Hid (∀ (bA : Nat) (wc : World), w.heap.size < bA → Hid (Blk bA #[.string ⟨#[]⟩, .string ⟨#[118, 111, 108]⟩, .string ⟨#[105, 112]⟩, .string ⟨#[118, 111, 108, 50]⟩] 9 wc) → Hid (RdS p (k0 + 0) wc) → Hid (Bt p w.heap.size w wc) → Hid (Blk w.heap.size #[.string ⟨#[]⟩, .int .i64 0, .string ⟨#[]⟩, .int .i64 0, .int .i64 0, .int .i64 0, .int .i64 0] 36 wc) → ∀ L, L = #[true, true, false, false, true, true, false, false, false, true, false, true, false, false, true, false, false, false, true, false, false, false] → Z (fun wy => Blk bA #[.string ⟨#[]⟩, .string ⟨#[118, 111, 108]⟩, .string ⟨#[105, 112]⟩, .string ⟨#[118, 111, 108, 50]⟩] 9 wy) 14 L ⟨#[.pointer (some ⟨p, 0, none⟩), .string s, undef, undef, .pointer (some ⟨w.heap.size, 0, none⟩), .string s, .pointer (some ⟨p, 0, none⟩), undef, undef, .slice (some ⟨bA, 0, none⟩) 4 4, .pointer (some ⟨p, 0, none⟩), undef, undef, undef, .pointer (some ⟨p, 0, none⟩), undef, .pointer (some ⟨p, 0, none⟩), undef, undef, .pointer (some ⟨p, 0, none⟩), undef, undef, undef, .pointer (some ⟨p, 0, none⟩), undef, undef], []⟩ wc) := by
  intro bA wc hA HA HR HB HZ L hL
  subst hL
  rw [HZZ.out]
  refine wpAnyH_ready (rs := [2, 13]) (by kernel_rfl) (by simp) (AllReadyH.cons (o := ⟨some 7, _, _, _, _, none⟩) rfl (fun K hK => ?_) (AllReadyH.cons (o := ⟨some 18, _, _, _, _, none⟩) rfl (fun K hK => ?_) AllReadyH.nil))
  ·go_simp
   refine (pick_rd p (k0 + 0) 3 _ HR.out (by omega) (by omega) (by omega)).mono ?_
   rintro e wn ⟨v1, rfl, hv1, hr, hb, hs⟩
   replace HR : Hid (RdS p (k0 + 1) wn) := hr
   replace HB : Hid (Bt p w.heap.size w wn) := HB.out.trans (hb.mono HB.out.size)
   replace HZ : Hid (Blk w.heap.size #[.string ⟨#[]⟩, .int .i64 0, .string ⟨#[]⟩, .int .i64 0, .int .i64 0, .int .i64 0, .int .i64 0] 36 wn) := HZ.out.bt hb HZ.out.lt (by omega)
   replace HA : Hid (Blk bA #[.string ⟨#[]⟩, .string ⟨#[118, 111, 108]⟩, .string ⟨#[105, 112]⟩, .string ⟨#[118, 111, 108, 50]⟩] 9 wn) := HA.out.bt hb HA.out.lt (by omega)
   refine hK.out _ _ HA.out (fun hS => ?_)
   clear hK K hb hs hr
   refine ty 3 ⟨some 8, _, _, _, _, none⟩ (.int .i64 (1 + (v1 : Int))) rfl (by rfl) ?_ hS ?_
   ·intro wy hy
    clear hy
    first | (go_simp; done) | (go_simp; rw [IntKind.wrap_i64]; omega)
   simp only [pA, pB, pC, pD]
   rw [← HZZ.out]
   exact st110.out _ _ _ hv1 hA HA HR HB HZ _ (by kernel_rfl)
  ·go_simp
   have hba : Below wc.heap.size wc (wc.alloc (.cells #[.int .i64 0, .int .i64 0, .int .i64 0, .int .i64 1, .int .i64 3, .int .i64 8] 3)) := (Below.refl _ _).alloc (Nat.le_refl _) _
   have HBb : Hid (Blk wc.heap.size #[.int .i64 0, .int .i64 0, .int .i64 0, .int .i64 1, .int .i64 3, .int .i64 8] 3 (wc.alloc (.cells #[.int .i64 0, .int .i64 0, .int .i64 0, .int .i64 1, .int .i64 3, .int .i64 8] 3))) := Blk.alloc _ _ _
   have hB : w.heap.size < wc.heap.size := HZ.out.lt
   have hpc := HR.out.lt
   replace HR : Hid (RdS p (k0 + 0) (wc.alloc (.cells #[.int .i64 0, .int .i64 0, .int .i64 0, .int .i64 1, .int .i64 3, .int .i64 8] 3))) := HR.out.below hba hpc
   replace HB : Hid (Bt p w.heap.size w (wc.alloc (.cells #[.int .i64 0, .int .i64 0, .int .i64 0, .int .i64 1, .int .i64 3, .int .i64 8] 3))) := HB.out.trans (Bt.of_below (hba.mono HB.out.size))
   replace HZ : Hid (Blk w.heap.size #[.string ⟨#[]⟩, .int .i64 0, .string ⟨#[]⟩, .int .i64 0, .int .i64 0, .int .i64 0, .int .i64 0] 36 (wc.alloc (.cells #[.int .i64 0, .int .i64 0, .int .i64 0, .int .i64 1, .int .i64 3, .int .i64 8] 3))) := HZ.out.below hba HZ.out.lt
   replace HA : Hid (Blk bA #[.string ⟨#[]⟩, .string ⟨#[118, 111, 108]⟩, .string ⟨#[105, 112]⟩, .string ⟨#[118, 111, 108, 50]⟩] 9 (wc.alloc (.cells #[.int .i64 0, .int .i64 0, .int .i64 0, .int .i64 1, .int .i64 3, .int .i64 8] 3))) := HA.out.below hba HA.out.lt
   refine hK.out _ _ HA.out (fun hS => ?_)
   clear hK K hba hpc hS
   generalize wc.alloc (Obj.cells #[.int .i64 0, .int .i64 0, .int .i64 0, .int .i64 1, .int .i64 3, .int .i64 8] 3) = wn at *
   generalize wc.heap.size = bB at *
   refine wpAnyH_mono (S' := fun wy => Blk bA #[.string ⟨#[]⟩, .string ⟨#[118, 111, 108]⟩, .string ⟨#[105, 112]⟩, .string ⟨#[118, 111, 108, 50]⟩] 9 wy ∧ Blk bB #[.int .i64 0, .int .i64 0, .int .i64 0, .int .i64 1, .int .i64 3, .int .i64 8] 3 wy) (fun _ h => h.1) _ _ _ _ ?_
   have hS : (fun wy => Blk bA #[.string ⟨#[]⟩, .string ⟨#[118, 111, 108]⟩, .string ⟨#[105, 112]⟩, .string ⟨#[118, 111, 108, 50]⟩] 9 wy ∧ Blk bB #[.int .i64 0, .int .i64 0, .int .i64 0, .int .i64 1, .int .i64 3, .int .i64 8] 3 wy) wn := ⟨HA.out, HBb.out⟩
   rw [← HZZ.out]
   exact st011.out _ _ _ hA HA hB HBb HR HB HZ _ (by kernel_rfl)
 have st001 : Hid (∀ (bB : Nat) (wc : World), w.heap.size < bB → Hid (Blk bB #[.int .i64 0, .int .i64 0, .int .i64 0, .int .i64 1, .int .i64 3, .int .i64 8] 3 wc) → Hid (RdS p (k0 + 0) wc) → Hid (Bt p w.heap.size w wc) → Hid (Blk w.heap.size #[.string ⟨#[]⟩, .int .i64 0, .string ⟨#[]⟩, .int .i64 0, .int .i64 0, .int .i64 0, .int .i64 0] 36 wc) → ∀ L, L = #[true, true, false, false, false, true, false, false, false, true, false, true, false, true, true, false, false, false, true, false, false, false] → Z (fun wy => Blk bB #[.int .i64 0, .int .i64 0, .int .i64 0, .int .i64 1, .int .i64 3, .int .i64 8] 3 wy) 14 L ⟨#[.pointer (some ⟨p, 0, none⟩), .string s, undef, undef, .pointer (some ⟨w.heap.size, 0, none⟩), .string s, .pointer (some ⟨p, 0, none⟩), undef, undef, undef, .pointer (some ⟨p, 0, none⟩), undef, undef, undef, .pointer (some ⟨p, 0, none⟩), undef, .pointer (some ⟨p, 0, none⟩), undef, .slice (some ⟨bB, 0, none⟩) 6 6, .pointer (some ⟨p, 0, none⟩), undef, undef, undef, .pointer (some ⟨p, 0, none⟩), undef, undef], []⟩ wc) := by
  intro bB wc hB HBb HR HB HZ L hL
  subst hL
  rw [HZZ.out]
  refine wpAnyH_ready (rs := [2, 4]) (by kernel_rfl) (by simp) (AllReadyH.cons (o := ⟨some 7, _, _, _, _, none⟩) rfl (fun K hK => ?_) (AllReadyH.cons (o := ⟨some 9, _, _, _, _, none⟩) rfl (fun K hK => ?_) AllReadyH.nil))
  ·go_simp
   refine (pick_rd p (k0 + 0) 3 _ HR.out (by omega) (by omega) (by omega)).mono ?_
   rintro e wn ⟨v1, rfl, hv1, hr, hb, hs⟩
   replace HR : Hid (RdS p (k0 + 1) wn) := hr
   replace HB : Hid (Bt p w.heap.size w wn) := HB.out.trans (hb.mono HB.out.size)
   replace HZ : Hid (Blk w.heap.size #[.string ⟨#[]⟩, .int .i64 0, .string ⟨#[]⟩, .int .i64 0, .int .i64 0, .int .i64 0, .int .i64 0] 36 wn) := HZ.out.bt hb HZ.out.lt (by omega)
   replace HBb : Hid (Blk bB #[.int .i64 0, .int .i64 0, .int .i64 0, .int .i64 1, .int .i64 3, .int .i64 8] 3 wn) := HBb.out.bt hb HBb.out.lt (by omega)
   refine hK.out _ _ HBb.out (fun hS => ?_)
   clear hK K hb hs hr
   refine ty 3 ⟨some 8, _, _, _, _, none⟩ (.int .i64 (1 + (v1 : Int))) rfl (by rfl) ?_ hS ?_
   ·intro wy hy
    clear hy
    first | (go_simp; done) | (go_simp; rw [IntKind.wrap_i64]; omega)
   simp only [pA, pB, pC, pD]
   rw [← HZZ.out]
   exact st101.out _ _ _ hv1 hB HBb HR HB HZ _ (by kernel_rfl)
  ·go_simp
   have hba : Below wc.heap.size wc (wc.alloc (.cells #[.string ⟨#[]⟩, .string ⟨#[118, 111, 108]⟩, .string ⟨#[105, 112]⟩, .string ⟨#[118, 111, 108, 50]⟩] 9)) := (Below.refl _ _).alloc (Nat.le_refl _) _
   have HA : Hid (Blk wc.heap.size #[.string ⟨#[]⟩, .string ⟨#[118, 111, 108]⟩, .string ⟨#[105, 112]⟩, .string ⟨#[118, 111, 108, 50]⟩] 9 (wc.alloc (.cells #[.string ⟨#[]⟩, .string ⟨#[118, 111, 108]⟩, .string ⟨#[105, 112]⟩, .string ⟨#[118, 111, 108, 50]⟩] 9))) := Blk.alloc _ _ _
   have hA : w.heap.size < wc.heap.size := HZ.out.lt
   have hpc := HR.out.lt
   replace HR : Hid (RdS p (k0 + 0) (wc.alloc (.cells #[.string ⟨#[]⟩, .string ⟨#[118, 111, 108]⟩, .string ⟨#[105, 112]⟩, .string ⟨#[118, 111, 108, 50]⟩] 9))) := HR.out.below hba hpc
   replace HB : Hid (Bt p w.heap.size w (wc.alloc (.cells #[.string ⟨#[]⟩, .string ⟨#[118, 111, 108]⟩, .string ⟨#[105, 112]⟩, .string ⟨#[118, 111, 108, 50]⟩] 9))) := HB.out.trans (Bt.of_below (hba.mono HB.out.size))
   replace HZ : Hid (Blk w.heap.size #[.string ⟨#[]⟩, .int .i64 0, .string ⟨#[]⟩, .int .i64 0, .int .i64 0, .int .i64 0, .int .i64 0] 36 (wc.alloc (.cells #[.string ⟨#[]⟩, .string ⟨#[118, 111, 108]⟩, .string ⟨#[105, 112]⟩, .string ⟨#[118, 111, 108, 50]⟩] 9))) := HZ.out.below hba HZ.out.lt
   replace HBb : Hid (Blk bB #[.int .i64 0, .int .i64 0, .int .i64 0, .int .i64 1, .int .i64 3, .int .i64 8] 3 (wc.alloc (.cells #[.string ⟨#[]⟩, .string ⟨#[118, 111, 108]⟩, .string ⟨#[105, 112]⟩, .string ⟨#[118, 111, 108, 50]⟩] 9))) := HBb.out.below hba HBb.out.lt
   refine hK.out _ _ HBb.out (fun hS => ?_)
   clear hK K hba hpc hS
   generalize wc.alloc (Obj.cells #[.string ⟨#[]⟩, .string ⟨#[118, 111, 108]⟩, .string ⟨#[105, 112]⟩, .string ⟨#[118, 111, 108, 50]⟩] 9) = wn at *
   generalize wc.heap.size = bA at *
   refine wpAnyH_mono (S' := fun wy => Blk bA #[.string ⟨#[]⟩, .string ⟨#[118, 111, 108]⟩, .string ⟨#[105, 112]⟩, .string ⟨#[118, 111, 108, 50]⟩] 9 wy ∧ Blk bB #[.int .i64 0, .int .i64 0, .int .i64 0, .int .i64 1, .int .i64 3, .int .i64 8] 3 wy) (fun _ h => h.2) _ _ _ _ ?_
   have hS : (fun wy => Blk bA #[.string ⟨#[]⟩, .string ⟨#[118, 111, 108]⟩, .string ⟨#[105, 112]⟩, .string ⟨#[118, 111, 108, 50]⟩] 9 wy ∧ Blk bB #[.int .i64 0, .int .i64 0, .int .i64 0, .int .i64 1, .int .i64 3, .int .i64 8] 3 wy) wn := ⟨HA.out, HBb.out⟩
   rw [← HZZ.out]
   exact st011.out _ _ _ hA HA hB HBb HR HB HZ _ (by kernel_rfl)
 have st000 : Hid (∀ (wc : World), Hid (RdS p (k0 + 0) wc) → Hid (Bt p w.heap.size w wc) → Hid (Blk w.heap.size #[.string ⟨#[]⟩, .int .i64 0, .string ⟨#[]⟩, .int .i64 0, .int .i64 0, .int .i64 0, .int .i64 0] 36 wc) → ∀ L, L = #[true, true, false, false, false, true, false, false, false, true, false, true, false, false, true, false, false, false, true, false, false, false] → Z (fun _ => True) 15 L ⟨#[.pointer (some ⟨p, 0, none⟩), .string s, undef, undef, .pointer (some ⟨w.heap.size, 0, none⟩), .string s, .pointer (some ⟨p, 0, none⟩), undef, undef, undef, .pointer (some ⟨p, 0, none⟩), undef, undef, undef, .pointer (some ⟨p, 0, none⟩), undef, .pointer (some ⟨p, 0, none⟩), undef, undef, .pointer (some ⟨p, 0, none⟩), undef, undef, undef, .pointer (some ⟨p, 0, none⟩), undef, undef], []⟩ wc) := by
  intro wc HR HB HZ L hL
  subst hL
  rw [HZZ.out]
  refine wpAnyH_ready (rs := [2, 4, 13]) (by kernel_rfl) (by simp) (AllReadyH.cons (o := ⟨some 7, _, _, _, _, none⟩) rfl (fun K hK => ?_) (AllReadyH.cons (o := ⟨some 9, _, _, _, _, none⟩) rfl (fun K hK => ?_) (AllReadyH.cons (o := ⟨some 18, _, _, _, _, none⟩) rfl (fun K hK => ?_) AllReadyH.nil)))
  ·go_simp
   refine (pick_rd p (k0 + 0) 3 _ HR.out (by omega) (by omega) (by omega)).mono ?_
   rintro e wn ⟨v1, rfl, hv1, hr, hb, hs⟩
   replace HR : Hid (RdS p (k0 + 1) wn) := hr
   replace HB : Hid (Bt p w.heap.size w wn) := HB.out.trans (hb.mono HB.out.size)
   replace HZ : Hid (Blk w.heap.size #[.string ⟨#[]⟩, .int .i64 0, .string ⟨#[]⟩, .int .i64 0, .int .i64 0, .int .i64 0, .int .i64 0] 36 wn) := HZ.out.bt hb HZ.out.lt (by omega)
   refine hK.out _ _ trivial (fun hS => ?_)
   clear hK K hb hs hr
   refine ty 3 ⟨some 8, _, _, _, _, none⟩ (.int .i64 (1 + (v1 : Int))) rfl (by rfl) ?_ hS ?_
   ·intro wy hy
    clear hy
    first | (go_simp; done) | (go_simp; rw [IntKind.wrap_i64]; omega)
   simp only [pA, pB, pC, pD]
   rw [← HZZ.out]
   exact st100.out _ _ hv1 HR HB HZ _ (by kernel_rfl)
  ·go_simp
   have hba : Below wc.heap.size wc (wc.alloc (.cells #[.string ⟨#[]⟩, .string ⟨#[118, 111, 108]⟩, .string ⟨#[105, 112]⟩, .string ⟨#[118, 111, 108, 50]⟩] 9)) := (Below.refl _ _).alloc (Nat.le_refl _) _
   have HA : Hid (Blk wc.heap.size #[.string ⟨#[]⟩, .string ⟨#[118, 111, 108]⟩, .string ⟨#[105, 112]⟩, .string ⟨#[118, 111, 108, 50]⟩] 9 (wc.alloc (.cells #[.string ⟨#[]⟩, .string ⟨#[118, 111, 108]⟩, .string ⟨#[105, 112]⟩, .string ⟨#[118, 111, 108, 50]⟩] 9))) := Blk.alloc _ _ _
   have hA : w.heap.size < wc.heap.size := HZ.out.lt
   have hpc := HR.out.lt
   replace HR : Hid (RdS p (k0 + 0) (wc.alloc (.cells #[.string ⟨#[]⟩, .string ⟨#[118, 111, 108]⟩, .string ⟨#[105, 112]⟩, .string ⟨#[118, 111, 108, 50]⟩] 9))) := HR.out.below hba hpc
   replace HB : Hid (Bt p w.heap.size w (wc.alloc (.cells #[.string ⟨#[]⟩, .string ⟨#[118, 111, 108]⟩, .string ⟨#[105, 112]⟩, .string ⟨#[118, 111, 108, 50]⟩] 9))) := HB.out.trans (Bt.of_below (hba.mono HB.out.size))
   replace HZ : Hid (Blk w.heap.size #[.string ⟨#[]⟩, .int .i64 0, .string ⟨#[]⟩, .int .i64 0, .int .i64 0, .int .i64 0, .int .i64 0] 36 (wc.alloc (.cells #[.string ⟨#[]⟩, .string ⟨#[118, 111, 108]⟩, .string ⟨#[105, 112]⟩, .string ⟨#[118, 111, 108, 50]⟩] 9))) := HZ.out.below hba HZ.out.lt
   refine hK.out _ _ trivial (fun hS => ?_)
   clear hK K hba hpc hS
   generalize wc.alloc (Obj.cells #[.string ⟨#[]⟩, .string ⟨#[118, 111, 108]⟩, .string ⟨#[105, 112]⟩, .string ⟨#[118, 111, 108, 50]⟩] 9) = wn at *
   generalize wc.heap.size = bA at *
   refine wpAnyH_mono (S' := fun wy => Blk bA #[.string ⟨#[]⟩, .string ⟨#[118, 111, 108]⟩, .string ⟨#[105, 112]⟩, .string ⟨#[118, 111, 108, 50]⟩] 9 wy) (fun _ h => trivial) _ _ _ _ ?_
   have hS : (fun wy => Blk bA #[.string ⟨#[]⟩, .string ⟨#[118, 111, 108]⟩, .string ⟨#[105, 112]⟩, .string ⟨#[118, 111, 108, 50]⟩] 9 wy) wn := HA.out
   rw [← HZZ.out]
   exact st010.out _ _ hA HA HR HB HZ _ (by kernel_rfl)
  ·go_simp
   have hba : Below wc.heap.size wc (wc.alloc (.cells #[.int .i64 0, .int .i64 0, .int .i64 0, .int .i64 1, .int .i64 3, .int .i64 8] 3)) := (Below.refl _ _).alloc (Nat.le_refl _) _
   have HBb : Hid (Blk wc.heap.size #[.int .i64 0, .int .i64 0, .int .i64 0, .int .i64 1, .int .i64 3, .int .i64 8] 3 (wc.alloc (.cells #[.int .i64 0, .int .i64 0, .int .i64 0, .int .i64 1, .int .i64 3, .int .i64 8] 3))) := Blk.alloc _ _ _
   have hB : w.heap.size < wc.heap.size := HZ.out.lt
   have hpc := HR.out.lt
   replace HR : Hid (RdS p (k0 + 0) (wc.alloc (.cells #[.int .i64 0, .int .i64 0, .int .i64 0, .int .i64 1, .int .i64 3, .int .i64 8] 3))) := HR.out.below hba hpc
   replace HB : Hid (Bt p w.heap.size w (wc.alloc (.cells #[.int .i64 0, .int .i64 0, .int .i64 0, .int .i64 1, .int .i64 3, .int .i64 8] 3))) := HB.out.trans (Bt.of_below (hba.mono HB.out.size))
   replace HZ : Hid (Blk w.heap.size #[.string ⟨#[]⟩, .int .i64 0, .string ⟨#[]⟩, .int .i64 0, .int .i64 0, .int .i64 0, .int .i64 0] 36 (wc.alloc (.cells #[.int .i64 0, .int .i64 0, .int .i64 0, .int .i64 1, .int .i64 3, .int .i64 8] 3))) := HZ.out.below hba HZ.out.lt
   refine hK.out _ _ trivial (fun hS => ?_)
   clear hK K hba hpc hS
   generalize wc.alloc (Obj.cells #[.int .i64 0, .int .i64 0, .int .i64 0, .int .i64 1, .int .i64 3, .int .i64 8] 3) = wn at *
   generalize wc.heap.size = bB at *
   refine wpAnyH_mono (S' := fun wy => Blk bB #[.int .i64 0, .int .i64 0, .int .i64 0, .int .i64 1, .int .i64 3, .int .i64 8] 3 wy) (fun _ h => trivial) _ _ _ _ ?_
   have hS : (fun wy => Blk bB #[.int .i64 0, .int .i64 0, .int .i64 0, .int .i64 1, .int .i64 3, .int .i64 8] 3 wy) wn := HBb.out
   rw [← HZZ.out]
   exact st001.out _ _ hB HBb HR HB HZ _ (by kernel_rfl)
 rw [HZZ.out]
 refine ty 0 ⟨some 5, _, _, _, _, none⟩ (.string s) rfl (by rfl) ?_ hS ?_
 ·intro wy hy
  clear hy
  go_simp
 simp only [pA, pB, pC, pD]
 refine ty 1 ⟨some 6, _, _, _, _, none⟩ (.pointer (some ⟨p, 0, none⟩)) rfl (by rfl) ?_ hS ?_
 ·intro wy hy
  clear hy
  go_simp
 simp only [pA, pB, pC, pD]
 refine ty 5 ⟨some 10, _, _, _, _, none⟩ (.pointer (some ⟨p, 0, none⟩)) rfl (by rfl) ?_ hS ?_
 ·intro wy hy
  clear hy
  go_simp
 simp only [pA, pB, pC, pD]
 refine ty 9 ⟨some 14, _, _, _, _, none⟩ (.pointer (some ⟨p, 0, none⟩)) rfl (by rfl) ?_ hS ?_
 ·intro wy hy
  clear hy
  go_simp
 simp only [pA, pB, pC, pD]
 refine ty 11 ⟨some 16, _, _, _, _, none⟩ (.pointer (some ⟨p, 0, none⟩)) rfl (by rfl) ?_ hS ?_
 ·intro wy hy
  clear hy
  go_simp
 simp only [pA, pB, pC, pD]
 refine ty 14 ⟨some 19, _, _, _, _, none⟩ (.pointer (some ⟨p, 0, none⟩)) rfl (by rfl) ?_ hS ?_
 ·intro wy hy
  clear hy
  go_simp
 simp only [pA, pB, pC, pD]
 refine ty 18 ⟨some 23, _, _, _, _, none⟩ (.pointer (some ⟨p, 0, none⟩)) rfl (by rfl) ?_ hS ?_
 ·intro wy hy
  clear hy
  go_simp
 simp only [pA, pB, pC, pD]
 rw [← HZZ.out]
 exact st000.out _ HR.out.drew HB.out.drew HZ.out.drew _ (by kernel_rfl)

end Go.Proofs.Ytnifmiacobfplaa
