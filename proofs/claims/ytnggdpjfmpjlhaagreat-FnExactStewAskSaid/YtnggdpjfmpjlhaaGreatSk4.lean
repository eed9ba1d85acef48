import Derived.Test.YtnggdpjfmpjlhaaGreatTkw
import Derived.Test.YtnggdpjfmpjlhaaGreatSk3
namespace Go.Proofs.YtnggdpjfmpjlhaaGreat
open Go.RowKit

def someB (x : Sbk) (v : Ssv) (k : Int) (c : Scp) : Bool := if k = 2 then c.image != v.image else if k = 6 then drB x c else c.state == 4
def someL (x : Sbk) (v : Ssv) (k : Int) : List Nat := (liveL x v.name).filter (fun i => someB x v k (cAt x i))

theorem pls_grown {lo gl : Nat} {w w' : World} {row : Option Nat} {l : List Nat} (h : Pls lo w (some ⟨gl, 0, none⟩) l) (hg : w.grownBy w' row) (hne : some gl ≠ row) : Pls lo w' (some ⟨gl, 0, none⟩) l := by
 obtain ⟨h1, h2⟩ := h
 rcases h2 with e | ⟨b, o, ea, ⟨hlo, hfz⟩, hbl, hc⟩
 ·exact ⟨h1, .inl e⟩
 ·cases ea
  refine ⟨h1, .inr ⟨gl, 0, rfl, ⟨hlo, fun hp p => (hg.frozen_far ⟨gl, p, none⟩ hbl hne).trans (hfz hp p)⟩, Nat.lt_of_lt_of_le hbl hg.size, fun j x hj => ?_⟩⟩
  exact (hg.cell_far ⟨gl, 0 + j * 1 + 0, none⟩ hbl hne).trans (hc j x hj)

set_option maxHeartbeats 16000000 in
set_option maxRecDepth 100000 in
theorem some_any (x : Sbk) (a1 : Option Addr) (c1 : Nat) (a2 : Option Addr) (c2 : Nat) (a3 : Option Addr) (c3 : Nat) (lo : Nat) (v : Ssv) (kd : Int) (w : World) (n2 : SliceC ScpC 7 lo w a2 x.copies) (n3 : SliceC SbtC 2 lo w a3 x.berths) (hl2 : x.copies.length ≤ 1048576) (hl3 : x.berths.length ≤ 1048576) (hkd : kd = 2 ∨ kd = 3 ∨ kd = 6) :
  Calls Tryz.prog 44 #[.agg #[.int .i64 x.now, .slice a1 x.services.length c1, .slice a2 x.copies.length c2, .slice a3 x.berths.length c3], .agg #[.string v.name, .int .i64 v.version, .bool v.gone, .int .i64 v.image, .int .i64 v.want, .int .i64 v.down, .int .i64 v.over, .int .i64 v.next, .int .i64 v.per, .int .i64 v.least, .int .i64 v.most, .int .i64 v.load, .int .i64 v.cool], .int .i64 kd] w fun e w' => PlRes (someL x v kd) w e w' := by
 obtain ⟨i0, hi, hz0, hz1, hz2⟩ := info_parts info_int
 have HN3 := Hid.intro n3
 have HI := Hid.intro n2
 clear n2 n3
 have hb1 : Blk w.heap.size #[.int .i64 x.now, .slice a1 x.services.length c1, .slice a2 x.copies.length c2, .slice a3 x.berths.length c3] 34 (w.alloc (Obj.cells #[.int .i64 x.now, .slice a1 x.services.length c1, .slice a2 x.copies.length c2, .slice a3 x.berths.length c3] 34)) := Blk.alloc _ _ _
 have hb2 : Blk w.heap.size #[.int .i64 x.now, .slice a1 x.services.length c1, .slice a2 x.copies.length c2, .slice a3 x.berths.length c3] 34 ((w.alloc (Obj.cells #[.int .i64 x.now, .slice a1 x.services.length c1, .slice a2 x.copies.length c2, .slice a3 x.berths.length c3] 34)).alloc (Obj.cells #[.string v.name, .int .i64 v.version, .bool v.gone, .int .i64 v.image, .int .i64 v.want, .int .i64 v.down, .int .i64 v.over, .int .i64 v.next, .int .i64 v.per, .int .i64 v.least, .int .i64 v.most, .int .i64 v.load, .int .i64 v.cool] 50)) := hb1.below ((Below.refl _ _).alloc (Nat.le_refl _) _) hb1.lt
 have HB2 : Hid (Blk w.heap.size #[.int .i64 x.now, .slice a1 x.services.length c1, .slice a2 x.copies.length c2, .slice a3 x.berths.length c3] 34 (((w.alloc (Obj.cells #[.int .i64 x.now, .slice a1 x.services.length c1, .slice a2 x.copies.length c2, .slice a3 x.berths.length c3] 34)).alloc (Obj.cells #[.string v.name, .int .i64 v.version, .bool v.gone, .int .i64 v.image, .int .i64 v.want, .int .i64 v.down, .int .i64 v.over, .int .i64 v.next, .int .i64 v.per, .int .i64 v.least, .int .i64 v.most, .int .i64 v.load, .int .i64 v.cool] 50)).alloc (Obj.cells #[] 3))) := hb2.below ((Below.refl _ _).alloc (Nat.le_refl _) _) hb2.lt
 have hs2 : Blk (w.heap.size + 1) #[.string v.name, .int .i64 v.version, .bool v.gone, .int .i64 v.image, .int .i64 v.want, .int .i64 v.down, .int .i64 v.over, .int .i64 v.next, .int .i64 v.per, .int .i64 v.least, .int .i64 v.most, .int .i64 v.load, .int .i64 v.cool] 50 ((w.alloc (Obj.cells #[.int .i64 x.now, .slice a1 x.services.length c1, .slice a2 x.copies.length c2, .slice a3 x.berths.length c3] 34)).alloc (Obj.cells #[.string v.name, .int .i64 v.version, .bool v.gone, .int .i64 v.image, .int .i64 v.want, .int .i64 v.down, .int .i64 v.over, .int .i64 v.next, .int .i64 v.per, .int .i64 v.least, .int .i64 v.most, .int .i64 v.load, .int .i64 v.cool] 50)) := by
  have := Blk.alloc (w.alloc (Obj.cells #[.int .i64 x.now, .slice a1 x.services.length c1, .slice a2 x.copies.length c2, .slice a3 x.berths.length c3] 34)) #[.string v.name, .int .i64 v.version, .bool v.gone, .int .i64 v.image, .int .i64 v.want, .int .i64 v.down, .int .i64 v.over, .int .i64 v.next, .int .i64 v.per, .int .i64 v.least, .int .i64 v.most, .int .i64 v.load, .int .i64 v.cool] 50
  simpa using this
 have HS2 : Hid (Blk (w.heap.size + 1) #[.string v.name, .int .i64 v.version, .bool v.gone, .int .i64 v.image, .int .i64 v.want, .int .i64 v.down, .int .i64 v.over, .int .i64 v.next, .int .i64 v.per, .int .i64 v.least, .int .i64 v.most, .int .i64 v.load, .int .i64 v.cool] 50 (((w.alloc (Obj.cells #[.int .i64 x.now, .slice a1 x.services.length c1, .slice a2 x.copies.length c2, .slice a3 x.berths.length c3] 34)).alloc (Obj.cells #[.string v.name, .int .i64 v.version, .bool v.gone, .int .i64 v.image, .int .i64 v.want, .int .i64 v.down, .int .i64 v.over, .int .i64 v.next, .int .i64 v.per, .int .i64 v.least, .int .i64 v.most, .int .i64 v.load, .int .i64 v.cool] 50)).alloc (Obj.cells #[] 3))) := hs2.below ((Below.refl _ _).alloc (Nat.le_refl _) _) hs2.lt
 have HO2 : Hid ((((w.alloc (Obj.cells #[.int .i64 x.now, .slice a1 x.services.length c1, .slice a2 x.copies.length c2, .slice a3 x.berths.length c3] 34)).alloc (Obj.cells #[.string v.name, .int .i64 v.version, .bool v.gone, .int .i64 v.image, .int .i64 v.want, .int .i64 v.down, .int .i64 v.over, .int .i64 v.next, .int .i64 v.per, .int .i64 v.least, .int .i64 v.most, .int .i64 v.load, .int .i64 v.cool] 50)).alloc (Obj.cells #[] 3)).ownsRow (w.heap.size + 1 + 1) 3 1 (.slice (some ⟨w.heap.size + 1 + 1, 0, none⟩) 0 0) 0 []) := by
  have := World.ownsRow_made ((w.alloc (Obj.cells #[.int .i64 x.now, .slice a1 x.services.length c1, .slice a2 x.copies.length c2, .slice a3 x.berths.length c3] 34)).alloc (Obj.cells #[.string v.name, .int .i64 v.version, .bool v.gone, .int .i64 v.image, .int .i64 v.want, .int .i64 v.down, .int .i64 v.over, .int .i64 v.next, .int .i64 v.per, .int .i64 v.least, .int .i64 v.most, .int .i64 v.load, .int .i64 v.cool] 50)) (e := 3) (size := 1) (base := w.heap.size + 1 + 1) #[] 0 (by simp) (Nat.zero_le _) rfl
  show World.ownsRow _ _ _ _ _ _ _
  simpa using this
 have hB2 : Below w.heap.size w (((w.alloc (Obj.cells #[.int .i64 x.now, .slice a1 x.services.length c1, .slice a2 x.copies.length c2, .slice a3 x.berths.length c3] 34)).alloc (Obj.cells #[.string v.name, .int .i64 v.version, .bool v.gone, .int .i64 v.image, .int .i64 v.want, .int .i64 v.down, .int .i64 v.over, .int .i64 v.next, .int .i64 v.per, .int .i64 v.least, .int .i64 v.most, .int .i64 v.load, .int .i64 v.cool] 50)).alloc (Obj.cells #[] 3)) := by go_grown
 clear hb1 hb2 hs2
 obtain ⟨f, HFF⟩ : ∃ f : Nat → Bool, Hid (f = fun i => someB x v kd (cAt x i)) := ⟨_, rfl⟩
 have HRES : Hid (someL x v kd = (liveL x v.name).filter f) := by show _ = _; rw [HFF.out]; rfl
 go_enter Tryz.func44, Tryz.ntmps44
 go_upto_region 2 with fail
 generalize ((w.alloc (Obj.cells #[.int .i64 x.now, .slice a1 x.services.length c1, .slice a2 x.copies.length c2, .slice a3 x.berths.length c3] 34)).alloc (Obj.cells #[.string v.name, .int .i64 v.version, .bool v.gone, .int .i64 v.image, .int .i64 v.want, .int .i64 v.down, .int .i64 v.over, .int .i64 v.next, .int .i64 v.per, .int .i64 v.least, .int .i64 v.most, .int .i64 v.load, .int .i64 v.cool] 50)).alloc (Obj.cells #[] 3) = w2 at *
 have hgs : w.heap.size < w.heap.size + 1 ∧ w.heap.size + 1 < w.heap.size + 1 + 1 := by omega
 generalize w.heap.size + 1 + 1 = g0 at *
 generalize w.heap.size + 1 = gs at *
 have k0 : w2.cell? ⟨gs, 0, none⟩ = some (.string v.name) := HS2.out.cell rfl
 go_wp2_with (refine wpList_load_mid rfl 34 _ rfl w.heap.size 0 rfl [.int .i64 x.now, .slice a1 x.services.length c1, .slice a2 x.copies.length c2, .slice a3 x.berths.length c3] _ HB2.out.rangeA Tryz.underlying34 rfl isz_Sbk ?_)
 refine (live22_any x a1 c1 a2 c2 a3 c3 lo v.name _ (HI.out.below ScpC.holds hB2 (Nat.le_refl _)) hl2).mono ?_
 rintro e w3 ⟨gl, ql, rfl, hpl, hb3⟩
 have hgl : w2.heap.size ≤ gl ∨ liveL x v.name = [] := by
  rcases hpl.2 with e | ⟨b, o, ea, ⟨hlo, _⟩, _⟩
  ·exact .inr (by simpa [toI] using e)
  ·cases ea; exact .inl hlo
 have HP := Hid.intro hpl
 have HIN : Hid (∀ i ∈ liveL x v.name, i < x.copies.length) := fun i hi => plTo_lt hi
 have hll : (liveL x v.name).length ≤ 1048576 := by have := plTo_len (fun i => lvB v.name (cAt x i)) x.copies.length; unfold liveL; omega
 have HB3 := Hid.intro (HB2.out.below hb3 HB2.out.lt)
 have HS3 := Hid.intro (HS2.out.below hb3 HS2.out.lt)
 have HO3 := Hid.intro (ownsRow_below HO2.out hb3)
 have hB3 := hB2.trans (hb3.mono hB2.size)
 have hg0l : g0 < w2.heap.size := (HO2.out.lt g0 rfl).2
 have HGL : Hid (w2.heap.size ≤ gl ∨ liveL x v.name = []) := hgl
 clear hb3 HB2 HS2 HO2 hB2 k0 hpl hgl
 obtain ⟨l, HLL⟩ : ∃ l, Hid (l = liveL x v.name) := ⟨_, rfl⟩
 rw [← HLL.out] at HP HIN hll HRES HGL ⊢
 have hgne : g0 ≠ gl ∨ l = [] := by rcases HGL.out with h | h; exact .inl (by omega); exact .inr h
 clear HGL
 go_wp2_with fail
 go_loopw [7, 9] (fun u i wr => ∃ (k g q : Nat), k ≤ l.length ∧ i = .int .i64 k ∧ u = .slice (some ⟨g, 0, none⟩) ((l.take k).filter f).length q ∧ Hid (Blk w.heap.size #[.int .i64 x.now, .slice a1 x.services.length c1, .slice a2 x.copies.length c2, .slice a3 x.berths.length c3] 34 wr) ∧ Hid (Blk gs #[.string v.name, .int .i64 v.version, .bool v.gone, .int .i64 v.image, .int .i64 v.want, .int .i64 v.down, .int .i64 v.over, .int .i64 v.next, .int .i64 v.per, .int .i64 v.least, .int .i64 v.most, .int .i64 v.load, .int .i64 v.cool] 50 wr) ∧ Hid (Pls w2.heap.size wr (some ⟨gl, 0, none⟩) l) ∧ (g ≠ gl ∨ l = []) ∧ Hid (wr.ownsRow g0 3 1 (.slice (some ⟨g, 0, none⟩) ((l.take k).filter f).length q) ((l.take k).filter f).length (inV (toI ((l.take k).filter f)))) ∧ Below w.heap.size w wr) (fun _ i _ => l.length - (intOf i).toNat)
 case atStart => exact ⟨0, g0, 0, Nat.zero_le _, rfl, by simp, HB3, HS3, HP, hgne, by simpa using HO3, hB3⟩
 case round =>
  clear HB3 HS3 HP HO3 hB3 hgne
  obtain ⟨k, g, q, hk, rfl, rfl, HB, HS, HP, hgne, hO, hbel⟩ := hrel
  by_cases hlt : k < l.length
  ·obtain ⟨i, hki⟩ : ∃ i, l[k]? = some i := ⟨l[k], List.getElem?_eq_getElem hlt⟩
   have hne2 : g ≠ gl := by rcases hgne with h | h; exact h; rw [h] at hlt; simp at hlt
   clear hgne
   have hil : i < x.copies.length := HIN.out i (List.mem_of_getElem? hki)
   obtain ⟨c, hc⟩ : ∃ c, x.copies[i]? = some c := ⟨x.copies[i], List.getElem?_eq_getElem hil⟩
   obtain ⟨b4, o4, ea, hbl, hcl⟩ := pls_at HP.out hki
   cases ea
   obtain ⟨b2, o2, rfl, _, hb2, hcc⟩ := HI.out.at hc
   have HRC := Hid.intro (rngScp hcc)
   have HC1 : Hid (wr.cell? ⟨gl, k, none⟩ = some (.int .i64 i)) := by show _ = _; simpa using hcl
   have HFI : Hid (f i = someB x v kd c) := by show _ = _; rw [HFF.out]; show someB x v kd (cAt x i) = _; rw [cAt_at hc]
   have HKI := Hid.intro hki
   have hgb : g0 ≤ g := row_baseI hO.out
   clear hcc hc hki hcl
   have hfl := filt_len f l k
   obtain ⟨M, HM⟩ : ∃ M, Hid (M = (l.take k).filter f) := ⟨_, rfl⟩
   rw [← HM.out] at hO hfl ⊢
   go_upto_region 6 with fail
   go_cut [10] (fun p wz => ∃ gb : Nat, p = .pointer (some ⟨gb, 0, none⟩) ∧ Hid (Blk gb #[.string c.service, .int .i64 c.number, .int .i64 c.version, .int .i64 c.image, .int .i64 c.state, .bool c.ending, .string c.berth] 87 wz) ∧ Below wr.heap.size wr wz)
   case first =>
    have HSB : Hid (∀ wz, Below wr.heap.size wr wz → (fun wy => Blk w.heap.size #[.int .i64 x.now, .slice a1 x.services.length c1, .slice (some ⟨b2, o2, none⟩) x.copies.length c2, .slice a3 x.berths.length c3] 34 wy ∧ wy.cell? ⟨gl, k, none⟩ = some (.int .i64 i) ∧ wy.rangeAt b2 (o2 + i * 7) [.string c.service, .int .i64 c.number, .int .i64 c.version, .int .i64 c.image, .int .i64 c.state, .bool c.ending, .string c.berth]) wz) := fun wz hb => ⟨HB.out.below hb HB.out.lt, (hb.cell (p := ⟨gl, k, none⟩) hbl).trans HC1.out, rngB HRC.out (hbel.trans (hb.mono hbel.size)) hb2⟩
    refine wp_region_held_drew (S := fun wy => Blk w.heap.size #[.int .i64 x.now, .slice a1 x.services.length c1, .slice (some ⟨b2, o2, none⟩) x.copies.length c2, .slice a3 x.berths.length c3] 34 wy ∧ wy.cell? ⟨gl, k, none⟩ = some (.int .i64 i) ∧ wy.rangeAt b2 (o2 + i * 7) [.string c.service, .int .i64 c.number, .int .i64 c.version, .int .i64 c.image, .int .i64 c.state, .bool c.ending, .string c.berth]) (by kernel_rfl) (HSB.out _ (Below.refl _ _).drew) (fun hS => ?_)
    have hB3 : Below wr.heap.size wr wr.drew := (Below.refl _ _).drew
    obtain ⟨w3, HW3⟩ : ∃ w3, Hid (w3 = wr.drew) := ⟨_, rfl⟩
    rw [← HW3.out] at hS hB3 ⊢
    clear HW3
    refine tz 0 22 (.pointer (some ⟨w.heap.size, 2, none⟩)) rfl hS ?_
    simp only [pA,pB,pC,pD]
    refine ty 1 ⟨some 23, _, _, _, _, none⟩ (.slice (some ⟨b2, o2, none⟩) x.copies.length c2) rfl (by rfl) ?_ hS ?_
    ·intro wy hy
     have h0 := hy.1.cell (o := 2) rfl
     clear hy
     go_simp
    simp only [pA,pB,pC,pD]
    refine tz 2 24 (.slice (some ⟨gl, 0, none⟩) l.length ql) rfl hS ?_
    simp only [pA,pB,pC,pD]
    refine tz 3 25 (.int .i64 k) rfl hS ?_
    simp only [pA,pB,pC,pD]
    refine ty 4 ⟨some 26, _, _, _, _, none⟩ (.pointer (some ⟨gl, k, none⟩)) rfl (by rfl) ?_ hS ?_
    ·intro wy hy
     clear hy
     first | (go_simp; done) | (go_simp; omega) | (go_simp; intro hh; omega)
    simp only [pA,pB,pC,pD]
    refine ty 5 ⟨some 27, _, _, _, _, none⟩ (.int .i64 i) rfl (by rfl) ?_ hS ?_
    ·intro wy hy
     have h0 := hy.2.1
     clear hy
     go_simp
    simp only [pA,pB,pC,pD]
    refine ty 6 ⟨some 28, _, _, _, _, none⟩ (.pointer (some ⟨b2, o2 + i * 7, none⟩)) rfl (by rfl) ?_ hS ?_
    ·intro wy hy
     clear hy
     first | (go_simp; done) | (go_simp; omega) | (go_simp; intro hh; omega)
    simp only [pA,pB,pC,pD]
    refine tm 7 29 b2 (o2 + i * 7) [.string c.service, .int .i64 c.number, .int .i64 c.version, .int .i64 c.image, .int .i64 c.state, .bool c.ending, .string c.berth] rfl (fun _ h => h.2.2) Tryz.underlying87 isz_Scp hS ?_
    simp only [pA,pB,pC,pD]
    refine rd1 8 ⟨some 10, _, _, _, _, none⟩ rfl (fun KK hKK => ?_)
    go_simp
    have HG : Hid (Blk w3.heap.size #[.string ⟨#[]⟩, .int .i64 0, .int .i64 0, .int .i64 0, .int .i64 0, .bool false, .string ⟨#[]⟩] 87 (w3.alloc (Obj.cells #[.string ⟨#[]⟩, .int .i64 0, .int .i64 0, .int .i64 0, .int .i64 0, .bool false, .string ⟨#[]⟩] 87))) := Blk.alloc _ _ _
    have hB4 : Below wr.heap.size wr (w3.alloc (Obj.cells #[.string ⟨#[]⟩, .int .i64 0, .int .i64 0, .int .i64 0, .int .i64 0, .bool false, .string ⟨#[]⟩] 87)) := hB3.alloc hB3.size _
    have hsw : wr.heap.size ≤ w3.heap.size := hB3.size
    refine hKK.out _ _ (HSB.out _ hB4) (fun hS => ?_)
    clear hKK KK hB3
    generalize w3.alloc (Obj.cells #[.string ⟨#[]⟩, .int .i64 0, .int .i64 0, .int .i64 0, .int .i64 0, .bool false, .string ⟨#[]⟩] 87) = w4 at *
    generalize w3.heap.size = gb at *
    refine rd1 9 ⟨none, _, _, _, _, none⟩ rfl (fun KK hKK => ?_)
    rw [if_pos (by rfl)]
    refine wp_store_mid 87 (.tmp 10) (.tmp 29) (by rfl) gb 0 #[.string c.service, .int .i64 c.number, .int .i64 c.version, .int .i64 c.image, .int .i64 c.state, .bool c.ending, .string c.berth] (by rfl) (by rfl) HG.out.there isz_Scp (by simp [Value.oneCell']) ?_
    have HG5 : Hid (Blk gb #[.string c.service, .int .i64 c.number, .int .i64 c.version, .int .i64 c.image, .int .i64 c.state, .bool c.ending, .string c.berth] 87 (w4.setCells gb 0 [.string c.service, .int .i64 c.number, .int .i64 c.version, .int .i64 c.image, .int .i64 c.state, .bool c.ending, .string c.berth])) := HG.out.setAll #[.string c.service, .int .i64 c.number, .int .i64 c.version, .int .i64 c.image, .int .i64 c.state, .bool c.ending, .string c.berth] rfl
    have hB5 : Below wr.heap.size wr (w4.setCells gb 0 [.string c.service, .int .i64 c.number, .int .i64 c.version, .int .i64 c.image, .int .i64 c.state, .bool c.ending, .string c.berth]) := below_setCells hsw _ _ _ hB4
    refine hKK.out _ _ (HSB.out _ hB5) (fun hS => ?_)
    clear hKK KK hS
    refine wpAnyH_done (by kernel_rfl) ?_ _
    go_wp2_with fail
    go_meet
    exact ⟨gb, rfl, HG5, hB5⟩
   case rest =>
    obtain ⟨gb, rfl, HG, hbx⟩ := hcut
    generalize wc = w3 at *
    have HB3 := Hid.intro (HB.out.below hbx HB.out.lt)
    have HS3 := Hid.intro (HS.out.below hbx HS.out.lt)
    have HP3 := Hid.intro (HP.out.below IntC.holds hbx (Nat.le_refl _))
    have HO3 := Hid.intro (ownsRow_below hO.out hbx)
    have hB3 := hbel.trans (hbx.mono hbel.size)
    clear HB HS HP hO hbel hbx HC1 HRC
    go_upto_region 7 with fail
    go_cut [56] (fun p wz => p = .bool (someB x v kd c) ∧ Below w3.heap.size w3 wz)
    case first =>
     have kc0 : w3.cell? ⟨gb, 0, none⟩ = some (.string c.service) := HG.out.cell rfl
     have kc1 : w3.cell? ⟨gb, 1, none⟩ = some (.int .i64 c.number) := HG.out.cell rfl
     have kc2 : w3.cell? ⟨gb, 2, none⟩ = some (.int .i64 c.version) := HG.out.cell rfl
     have kc3 : w3.cell? ⟨gb, 3, none⟩ = some (.int .i64 c.image) := HG.out.cell rfl
     have kc4 : w3.cell? ⟨gb, 4, none⟩ = some (.int .i64 c.state) := HG.out.cell rfl
     have kc5 : w3.cell? ⟨gb, 5, none⟩ = some (.bool c.ending) := HG.out.cell rfl
     have kc6 : w3.cell? ⟨gb, 6, none⟩ = some (.string c.berth) := HG.out.cell rfl
     have kb0 : w3.cell? ⟨w.heap.size, 0, none⟩ = some (.int .i64 x.now) := HB3.out.cell rfl
     have kb1 : w3.cell? ⟨w.heap.size, 1, none⟩ = some (.slice a1 x.services.length c1) := HB3.out.cell rfl
     have kb2 : w3.cell? ⟨w.heap.size, 2, none⟩ = some (.slice (some ⟨b2, o2, none⟩) x.copies.length c2) := HB3.out.cell rfl
     have kb3 : w3.cell? ⟨w.heap.size, 3, none⟩ = some (.slice a3 x.berths.length c3) := HB3.out.cell rfl
     have ks3 : w3.cell? ⟨gs, 3, none⟩ = some (.int .i64 v.image) := HS3.out.cell rfl
     rcases hkd with rfl | rfl | rfl
     ·have HE : Hid (someB x v 2 c = (c.image != v.image)) := if_pos rfl
      cases hq : (c.image != v.image) with
      | false =>
       go_wp2_with fail
       go_meet
       exact ⟨by rw [HE.out, hq], Below.refl _ _⟩
      | true =>
       go_wp2_with fail
       go_meet
       exact ⟨by rw [HE.out, hq], Below.refl _ _⟩
     ·have HE : Hid (someB x v 3 c = (c.state == 4)) := rfl
      go_wp2_with fail
      go_meet
      exact ⟨by rw [HE.out], Below.refl _ _⟩
     ·have HE : Hid (someB x v 6 c = drB x c) := rfl
      go_wp2_with fail
      refine (drains_any x a1 c1 _ c2 a3 c3 lo c _ (HN3.out.below SbtC.holds hB3 (Nat.le_refl _)) hl3).mono ?_
      rintro e w4 ⟨rfl, hb4⟩
      cases hq : drB x c with
      | false =>
       go_wp2_with fail
       go_meet
       exact ⟨by rw [HE.out, hq], hb4⟩
      | true =>
       go_wp2_with fail
       go_meet
       exact ⟨by rw [HE.out, hq], hb4⟩
    case rest =>
     obtain ⟨rfl, hbx⟩ := hcut
     generalize wc = w4 at *
     have HB4 := Hid.intro (HB3.out.below hbx HB3.out.lt)
     have HS4 := Hid.intro (HS3.out.below hbx HS3.out.lt)
     have HP4 := Hid.intro (HP3.out.below IntC.holds hbx (Nat.le_refl _))
     have HO4 := Hid.intro (ownsRow_below HO3.out hbx)
     have hB4 := hB3.trans (hbx.mono hB3.size)
     clear HB3 HS3 HP3 HO3 hB3 hbx HG
     rw [← HFI.out]
     cases hfi : f i with
     | false =>
      have HN : Hid ((l.take (k + 1)).filter f = M) := by show _ = _; rw [filt_step HKI.out, hfi, HM.out]; simp
      clear hfi
      go_wp2_with fail
      go_roundw
      case rel => exact ⟨k + 1, g, q, by omega, by go_num, by rw [HN.out], HB4, HS4, HP4, .inl hne2, by show World.ownsRow _ _ _ _ _ _ _; rw [HN.out]; exact HO4.out, hB4⟩
      case measure => simp [intOf]; omega
     | true =>
      have HN : Hid ((l.take (k + 1)).filter f = M ++ [i]) := by show _ = _; rw [filt_step HKI.out, hfi, HM.out]; simp
      clear hfi
      obtain ⟨b4, o4, ea, _, hcl⟩ := pls_at HP4.out HKI.out
      cases ea
      have k1 : w4.cell? ⟨gl, k, none⟩ = some (.int .i64 i) := by simpa using hcl
      clear hcl
      have hb5 : Below w4.heap.size w4 (w4.alloc (Obj.cells #[Value.int IntKind.i64 (i : Int)] 3)) := (Below.refl _ w4).alloc (Nat.le_refl _) _
      have HOA := Hid.intro (ownsRow_below HO4.out hb5)
      have hB5 := hB4.trans (hb5.mono hB4.size)
      have HB5 := Hid.intro (HB4.out.below hb5 HB4.out.lt)
      have HS5 := Hid.intro (HS4.out.below hb5 HS4.out.lt)
      have HP5 := Hid.intro (HP4.out.below IntC.holds hb5 (Nat.le_refl _))
      clear hb5
      generalize hL : M.length = L at *
      have hsz : gs < w4.heap.size := HS4.out.lt
      have hgl4 : gl < w4.heap.size := block_lt_of_cell k1
      have hgw : g < w4.heap.size := (HO4.out.lt g rfl).2
      go_wp2_with (at_builtin; refine wpList_append_lies _ rfl (.tmp 57) (.tmp 62) 90 rfl g0 3 i0 _ 1 8 Tryz.underlying90 hi hz0 hz1 hz2 rfl (by decide) _ L _ rfl HOA.out ⟨w4.heap.size, 0, none⟩ 1 1 [.int .i64 (i : Int)] rfl rfl (oneI (by simp)) (by intro u hu; rw [List.mem_singleton.1 hu]; rfl) (by omega) (by unfold maxLen; omega) (by omega) (by simp; omega) _ rfl ?_; intro g2 cap2 w5 hown hgrow hto hgl2)
      go_roundw
      case rel =>
       refine ⟨k + 1, g2, cap2, by omega, by go_num, ?_, ?_, ?_, ?_, .inl ?_, ?_, hB5.grown hgrow hB5.size (fun j hj => by have e2 : g = j := Option.some.inj hj; omega)⟩
       ·rw [HN.out, List.length_append, hL]; rfl
       ·exact (hgrow.block w.heap.size HB5.out.lt (fun e => by have e2 : w.heap.size = g := Option.some.inj e; omega)).trans HB5.out
       ·exact (hgrow.block gs HS5.out.lt (fun e => by have e2 : gs = g := Option.some.inj e; omega)).trans HS5.out
       ·exact pls_grown HP5.out hgrow (fun e => hne2 (Option.some.inj e).symm)
       ·rcases hto with e | e
        ·have e2 : g = g2 := Option.some.inj e
         omega
        ·simp at e
         omega
       ·show World.ownsRow _ _ _ _ _ _ _
        rw [HN.out, List.length_append, hL]
        simpa [inV, toI] using hown
      case measure => simp [intOf]; omega
  ·have hke : k = l.length := by omega
   subst hke
   have hfl := filt_len f l l.length
   go_wp2_with fail
   go_ret
   rw [List.take_length] at hO hfl
   refine ⟨g, q, by rw [List.take_length, HRES.out]; rfl, ?_, hbel⟩
   rw [HRES.out]
   exact (row_pls hO.out (by unfold maxLen; omega)).keep IntC.holds (Keeps.refl _ _) (by omega)

end Go.Proofs.YtnggdpjfmpjlhaaGreat
