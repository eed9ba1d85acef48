import Derived.Test.YtnggdpjfmpjlhaaGreatTkw
import Derived.Test.YtnggdpjfmpjlhaaGreatSk2
namespace Go.Proofs.YtnggdpjfmpjlhaaGreat
open Go.RowKit

def bestF (x : Sbk) (im : Int) : List Nat → Scp
 | [] => ⟨⟨#[]⟩, 0, 0, 0, 0, false, ⟨#[]⟩⟩
 | i :: r => r.foldl (fun b j => if soonB x (cAt x j) b im = true then cAt x j else b) (cAt x i)

theorem bestF_snoc (x : Sbk) (im : Int) (l : List Nat) (hl : l ≠ []) (j : Nat) : bestF x im (l ++ [j]) = if soonB x (cAt x j) (bestF x im l) im = true then cAt x j else bestF x im l := by
 cases l with
 | nil => exact absurd rfl hl
 | cons i r =>
  show (r ++ [j]).foldl _ _ = _
  rw [List.foldl_append]
  rfl

def firstL (x : Sbk) (im : Int) (l : List Nat) : List Sen := match l with
 | [] => []
 | _ :: _ => [enC (bestF x im l)]

set_option maxHeartbeats 16000000 in
set_option maxRecDepth 100000 in
theorem first_any (x : Sbk) (a1 : Option Addr) (c1 : Nat) (a2 : Option Addr) (c2 : Nat) (a3 : Option Addr) (c3 : Nat) (lo lp : Nat) (v : Ssv) (l : List Nat) (al : Option Addr) (cl : Nat) (w : World) (n2 : SliceC ScpC 7 lo w a2 x.copies) (n3 : SliceC SbtC 2 lo w a3 x.berths) (hl3 : x.berths.length ≤ 1048576) (hp : Pls lp w al l) (hin : ∀ i ∈ l, i < x.copies.length) (hl2 : l.length ≤ 1048576) :
  Calls Tryz.prog 71 #[.agg #[.int .i64 x.now, .slice a1 x.services.length c1, .slice a2 x.copies.length c2, .slice a3 x.berths.length c3], .agg #[.string v.name, .int .i64 v.version, .bool v.gone, .int .i64 v.image, .int .i64 v.want, .int .i64 v.down, .int .i64 v.over, .int .i64 v.next, .int .i64 v.per, .int .i64 v.least, .int .i64 v.most, .int .i64 v.load, .int .i64 v.cool], .slice al l.length cl] w fun e w' => EnRes (firstL x v.image l) w e w' := by
 have HN3 := Hid.intro n3
 have HI := Hid.intro n2
 have HP := Hid.intro hp
 have HIN := Hid.intro hin
 clear n2 n3 hp hin
 have hb1 : Blk w.heap.size #[.int .i64 x.now, .slice a1 x.services.length c1, .slice a2 x.copies.length c2, .slice a3 x.berths.length c3] 34 (w.alloc (Obj.cells #[.int .i64 x.now, .slice a1 x.services.length c1, .slice a2 x.copies.length c2, .slice a3 x.berths.length c3] 34)) := Blk.alloc _ _ _
 have HB2 : Hid (Blk w.heap.size #[.int .i64 x.now, .slice a1 x.services.length c1, .slice a2 x.copies.length c2, .slice a3 x.berths.length c3] 34 ((w.alloc (Obj.cells #[.int .i64 x.now, .slice a1 x.services.length c1, .slice a2 x.copies.length c2, .slice a3 x.berths.length c3] 34)).alloc (Obj.cells #[.string v.name, .int .i64 v.version, .bool v.gone, .int .i64 v.image, .int .i64 v.want, .int .i64 v.down, .int .i64 v.over, .int .i64 v.next, .int .i64 v.per, .int .i64 v.least, .int .i64 v.most, .int .i64 v.load, .int .i64 v.cool] 50))) := hb1.below ((Below.refl _ _).alloc (Nat.le_refl _) _) hb1.lt
 have HS2 : Hid (Blk (w.heap.size + 1) #[.string v.name, .int .i64 v.version, .bool v.gone, .int .i64 v.image, .int .i64 v.want, .int .i64 v.down, .int .i64 v.over, .int .i64 v.next, .int .i64 v.per, .int .i64 v.least, .int .i64 v.most, .int .i64 v.load, .int .i64 v.cool] 50 ((w.alloc (Obj.cells #[.int .i64 x.now, .slice a1 x.services.length c1, .slice a2 x.copies.length c2, .slice a3 x.berths.length c3] 34)).alloc (Obj.cells #[.string v.name, .int .i64 v.version, .bool v.gone, .int .i64 v.image, .int .i64 v.want, .int .i64 v.down, .int .i64 v.over, .int .i64 v.next, .int .i64 v.per, .int .i64 v.least, .int .i64 v.most, .int .i64 v.load, .int .i64 v.cool] 50))) := by
  have := Blk.alloc (w.alloc (Obj.cells #[.int .i64 x.now, .slice a1 x.services.length c1, .slice a2 x.copies.length c2, .slice a3 x.berths.length c3] 34)) #[.string v.name, .int .i64 v.version, .bool v.gone, .int .i64 v.image, .int .i64 v.want, .int .i64 v.down, .int .i64 v.over, .int .i64 v.next, .int .i64 v.per, .int .i64 v.least, .int .i64 v.most, .int .i64 v.load, .int .i64 v.cool] 50
  show Blk _ _ _ _
  simpa using this
 have hB2 : Below w.heap.size w ((w.alloc (Obj.cells #[.int .i64 x.now, .slice a1 x.services.length c1, .slice a2 x.copies.length c2, .slice a3 x.berths.length c3] 34)).alloc (Obj.cells #[.string v.name, .int .i64 v.version, .bool v.gone, .int .i64 v.image, .int .i64 v.want, .int .i64 v.down, .int .i64 v.over, .int .i64 v.next, .int .i64 v.per, .int .i64 v.least, .int .i64 v.most, .int .i64 v.load, .int .i64 v.cool] 50)) := by go_grown
 clear hb1
 go_enter Tryz.func71, Tryz.ntmps71
 go_upto_region 1 with fail
 generalize (w.alloc (Obj.cells #[.int .i64 x.now, .slice a1 x.services.length c1, .slice a2 x.copies.length c2, .slice a3 x.berths.length c3] 34)).alloc (Obj.cells #[.string v.name, .int .i64 v.version, .bool v.gone, .int .i64 v.image, .int .i64 v.want, .int .i64 v.down, .int .i64 v.over, .int .i64 v.next, .int .i64 v.per, .int .i64 v.least, .int .i64 v.most, .int .i64 v.load, .int .i64 v.cool] 50) = w2 at *
 have hgs : w.heap.size < w.heap.size + 1 := by omega
 generalize w.heap.size + 1 = gs at *
 cases l with
 | nil =>
  go_wp2_with fail
  go_ret
  refine ⟨w2.heap.size, 0, rfl, ⟨Nat.zero_le _, .inl rfl⟩, hB2.alloc hB2.size _⟩
 | cons i r =>
  have hil : i < x.copies.length := HIN.out i (by simp)
  obtain ⟨c, hc⟩ : ∃ c, x.copies[i]? = some c := ⟨x.copies[i], List.getElem?_eq_getElem hil⟩
  obtain ⟨bl, ol, rfl, hbl, hcl⟩ := pls_at (k := 0) HP.out rfl
  obtain ⟨b2, o2, rfl, _, hb2, hcc⟩ := HI.out.at hc
  have HRC := Hid.intro (rngScp hcc)
  have HC1 : Hid (w.cell? ⟨bl, ol, none⟩ = some (.int .i64 i)) := hcl
  have HBS : Hid (bestF x v.image ((i :: r).take 1) = c) := cAt_at hc
  clear hcc hc hcl
  obtain ⟨l, hl⟩ : ∃ l, l = i :: r := ⟨_, rfl⟩
  have hlen : 1 ≤ l.length := by rw [hl]; simp
  have hi0 : (l[0]? = some i) := by rw [hl]; rfl
  rw [← hl] at HP HIN HBS hl2 ⊢
  have HFL : Hid (firstL x v.image (i :: r) = [enC (bestF x v.image l)]) := by show _ = _; rw [hl]; rfl
  clear hl
  have hne : ¬ ((l.length : Int) = 0) := by omega
  go_upto_region 3 with fail
  go_cut [7] (fun p wz => ∃ gb : Nat, p = .pointer (some ⟨gb, 0, none⟩) ∧ gs < gb ∧ Hid (Blk gb #[.string c.service, .int .i64 c.number, .int .i64 c.version, .int .i64 c.image, .int .i64 c.state, .bool c.ending, .string c.berth] 87 wz) ∧ Hid (Blk w.heap.size #[.int .i64 x.now, .slice a1 x.services.length c1, .slice (some ⟨b2, o2, none⟩) x.copies.length c2, .slice a3 x.berths.length c3] 34 wz) ∧ Hid (Blk gs #[.string v.name, .int .i64 v.version, .bool v.gone, .int .i64 v.image, .int .i64 v.want, .int .i64 v.down, .int .i64 v.over, .int .i64 v.next, .int .i64 v.per, .int .i64 v.least, .int .i64 v.most, .int .i64 v.load, .int .i64 v.cool] 50 wz) ∧ Below w.heap.size w wz)
  case first =>
   have HSB : Hid (∀ wz, Below w.heap.size w wz → Blk w.heap.size #[.int .i64 x.now, .slice a1 x.services.length c1, .slice (some ⟨b2, o2, none⟩) x.copies.length c2, .slice a3 x.berths.length c3] 34 wz → (fun wy => Blk w.heap.size #[.int .i64 x.now, .slice a1 x.services.length c1, .slice (some ⟨b2, o2, none⟩) x.copies.length c2, .slice a3 x.berths.length c3] 34 wy ∧ wy.cell? ⟨bl, ol, none⟩ = some (.int .i64 i) ∧ wy.rangeAt b2 (o2 + i * 7) [.string c.service, .int .i64 c.number, .int .i64 c.version, .int .i64 c.image, .int .i64 c.state, .bool c.ending, .string c.berth]) wz) := fun wz hb h => ⟨h, (hb.cell (p := ⟨bl, ol, none⟩) hbl).trans HC1.out, rngB HRC.out hb hb2⟩
   refine wp_region_held_drew (S := fun wy => Blk w.heap.size #[.int .i64 x.now, .slice a1 x.services.length c1, .slice (some ⟨b2, o2, none⟩) x.copies.length c2, .slice a3 x.berths.length c3] 34 wy ∧ wy.cell? ⟨bl, ol, none⟩ = some (.int .i64 i) ∧ wy.rangeAt b2 (o2 + i * 7) [.string c.service, .int .i64 c.number, .int .i64 c.version, .int .i64 c.image, .int .i64 c.state, .bool c.ending, .string c.berth]) (by kernel_rfl) (HSB.out _ hB2.drew HB2.out.drew) (fun hS => ?_)
   have hB3 := hB2.drew
   have HB3 := Hid.intro HB2.out.drew
   have HS3 := Hid.intro HS2.out.drew
   clear hB2 HB2 HS2
   generalize w2.drew = w3 at *
   refine tz 0 13 (.pointer (some ⟨w.heap.size, 2, none⟩)) rfl hS ?_
   simp only [pA,pB,pC,pD]
   refine ty 1 ⟨some 14, _, _, _, _, none⟩ (.slice (some ⟨b2, o2, none⟩) x.copies.length c2) rfl (by rfl) ?_ hS ?_
   ·intro wy hy
    have h0 := hy.1.cell (o := 2) rfl
    clear hy
    go_simp
   simp only [pA,pB,pC,pD]
   refine tz 2 15 (.slice (some ⟨bl, ol, none⟩) l.length cl) rfl hS ?_
   simp only [pA,pB,pC,pD]
   refine ty 3 ⟨some 16, _, _, _, _, none⟩ (.pointer (some ⟨bl, ol, none⟩)) rfl (by rfl) ?_ hS ?_
   ·intro wy hy
    clear hy
    (go_simp; intro hh; rw [hh] at hlen; simp at hlen)
   simp only [pA,pB,pC,pD]
   refine ty 4 ⟨some 17, _, _, _, _, none⟩ (.int .i64 i) rfl (by rfl) ?_ hS ?_
   ·intro wy hy
    have h0 := hy.2.1
    clear hy
    go_simp
   simp only [pA,pB,pC,pD]
   refine ty 5 ⟨some 18, _, _, _, _, none⟩ (.pointer (some ⟨b2, o2 + i * 7, none⟩)) rfl (by rfl) ?_ hS ?_
   ·intro wy hy
    clear hy
    first | (go_simp; done) | (go_simp; omega) | (go_simp; intro hh; omega)
   simp only [pA,pB,pC,pD]
   refine tm 6 19 b2 (o2 + i * 7) [.string c.service, .int .i64 c.number, .int .i64 c.version, .int .i64 c.image, .int .i64 c.state, .bool c.ending, .string c.berth] rfl (fun _ h => h.2.2) Tryz.underlying87 isz_Scp hS ?_
   simp only [pA,pB,pC,pD]
   refine rd1 7 ⟨some 7, _, _, _, _, none⟩ rfl (fun KK hKK => ?_)
   go_simp
   have HG : Hid (Blk w3.heap.size #[.string ⟨#[]⟩, .int .i64 0, .int .i64 0, .int .i64 0, .int .i64 0, .bool false, .string ⟨#[]⟩] 87 (w3.alloc (Obj.cells #[.string ⟨#[]⟩, .int .i64 0, .int .i64 0, .int .i64 0, .int .i64 0, .bool false, .string ⟨#[]⟩] 87))) := Blk.alloc _ _ _
   have hba : Below w3.heap.size w3 (w3.alloc (Obj.cells #[.string ⟨#[]⟩, .int .i64 0, .int .i64 0, .int .i64 0, .int .i64 0, .bool false, .string ⟨#[]⟩] 87)) := (Below.refl _ _).alloc (Nat.le_refl _) _
   have hgg : gs < w3.heap.size := HS3.out.lt
   have HB4 := Hid.intro (HB3.out.below hba HB3.out.lt)
   have HS4 := Hid.intro (HS3.out.below hba HS3.out.lt)
   have hB4 := hB3.trans (hba.mono hB3.size)
   have hsw : w.heap.size ≤ w3.heap.size := hB3.size
   refine hKK.out _ _ (HSB.out _ hB4 HB4.out) (fun hS => ?_)
   clear hKK KK hba hB3 HB3 HS3
   generalize w3.alloc (Obj.cells #[.string ⟨#[]⟩, .int .i64 0, .int .i64 0, .int .i64 0, .int .i64 0, .bool false, .string ⟨#[]⟩] 87) = w4 at *
   generalize w3.heap.size = gb at *
   refine rd1 8 ⟨none, _, _, _, _, none⟩ rfl (fun KK hKK => ?_)
   rw [if_pos (by rfl)]
   refine wp_store_mid 87 (.tmp 7) (.tmp 19) (by rfl) gb 0 #[.string c.service, .int .i64 c.number, .int .i64 c.version, .int .i64 c.image, .int .i64 c.state, .bool c.ending, .string c.berth] (by rfl) (by rfl) HG.out.there isz_Scp (by simp [Value.oneCell']) ?_
   have HG5 : Hid (Blk gb #[.string c.service, .int .i64 c.number, .int .i64 c.version, .int .i64 c.image, .int .i64 c.state, .bool c.ending, .string c.berth] 87 (w4.setCells gb 0 [.string c.service, .int .i64 c.number, .int .i64 c.version, .int .i64 c.image, .int .i64 c.state, .bool c.ending, .string c.berth])) := HG.out.setAll #[.string c.service, .int .i64 c.number, .int .i64 c.version, .int .i64 c.image, .int .i64 c.state, .bool c.ending, .string c.berth] rfl
   have HB5 : Hid (Blk w.heap.size #[.int .i64 x.now, .slice a1 x.services.length c1, .slice (some ⟨b2, o2, none⟩) x.copies.length c2, .slice a3 x.berths.length c3] 34 (w4.setCells gb 0 [.string c.service, .int .i64 c.number, .int .i64 c.version, .int .i64 c.image, .int .i64 c.state, .bool c.ending, .string c.berth])) := blk_setCells_other (by omega) _ _ _ HB4.out
   have HS5 : Hid (Blk gs #[.string v.name, .int .i64 v.version, .bool v.gone, .int .i64 v.image, .int .i64 v.want, .int .i64 v.down, .int .i64 v.over, .int .i64 v.next, .int .i64 v.per, .int .i64 v.least, .int .i64 v.most, .int .i64 v.load, .int .i64 v.cool] 50 (w4.setCells gb 0 [.string c.service, .int .i64 c.number, .int .i64 c.version, .int .i64 c.image, .int .i64 c.state, .bool c.ending, .string c.berth])) := blk_setCells_other (by omega) _ _ _ HS4.out
   have hB5 : Below w.heap.size w (w4.setCells gb 0 [.string c.service, .int .i64 c.number, .int .i64 c.version, .int .i64 c.image, .int .i64 c.state, .bool c.ending, .string c.berth]) := below_setCells (by omega) _ _ _ hB4
   refine hKK.out _ _ (HSB.out _ hB5 HB5.out) (fun hS => ?_)
   clear hKK KK hS
   refine wpAnyH_done (by kernel_rfl) ?_ _
   go_wp2_with fail
   go_meet
   exact ⟨gb, rfl, hgg, HG5, HB5, HS5, hB5⟩
  case rest =>
   obtain ⟨gb, rfl, hgg, HG, HB, HS, hB⟩ := hcut
   clear HB2 HS2 hB2
   generalize wc = w3 at *
   go_wp2_with fail
   go_loopw [8] (fun q wr => ∃ k : Nat, 1 ≤ k ∧ k ≤ l.length ∧ q = .int .i64 k ∧ Hid (Blk gb #[.string (bestF x v.image (l.take k)).service, .int .i64 (bestF x v.image (l.take k)).number, .int .i64 (bestF x v.image (l.take k)).version, .int .i64 (bestF x v.image (l.take k)).image, .int .i64 (bestF x v.image (l.take k)).state, .bool (bestF x v.image (l.take k)).ending, .string (bestF x v.image (l.take k)).berth] 87 wr) ∧ Hid (Blk w.heap.size #[.int .i64 x.now, .slice a1 x.services.length c1, .slice (some ⟨b2, o2, none⟩) x.copies.length c2, .slice a3 x.berths.length c3] 34 wr) ∧ Hid (Blk gs #[.string v.name, .int .i64 v.version, .bool v.gone, .int .i64 v.image, .int .i64 v.want, .int .i64 v.down, .int .i64 v.over, .int .i64 v.next, .int .i64 v.per, .int .i64 v.least, .int .i64 v.most, .int .i64 v.load, .int .i64 v.cool] 50 wr) ∧ Below w.heap.size w wr) (fun q _ => l.length - (intOf q).toNat)
   case atStart => exact ⟨1, Nat.le_refl _, hlen, rfl, by rw [HBS.out]; exact HG, HB, HS, hB⟩
   case round =>
    clear HG HB HS hB HBS HC1 HRC hi0 hil hbl hb2 hne
    obtain ⟨k, hk1, hk, rfl, HG, HB, HS, hB⟩ := hrel
    obtain ⟨B, hBB⟩ : ∃ B, B = bestF x v.image (l.take k) := ⟨_, rfl⟩
    rw [← hBB] at HG
    by_cases hlt : k < l.length
    case neg =>
     have hke : k = l.length := by omega
     rw [hke, List.take_length] at hBB
     subst hke
     have k1 : wr.cell? ⟨gb, 1, none⟩ = some (.int .i64 B.number) := HG.out.cell rfl
     have k2 : wr.cell? ⟨gb, 2, none⟩ = some (.int .i64 B.version) := HG.out.cell rfl
     have HLE : Hid (firstL x v.image (i :: r) = [⟨B.number, B.version⟩]) := by show _ = _; rw [HFL.out, hBB]; rfl
     clear HFL hBB
     go_wp2_with fail
     go_ret
     refine ⟨wr.heap.size, 1, by rw [HLE.out]; rfl, ?_, hB.alloc hB.size _⟩
     rw [HLE.out]
     exact row_ens (l := [⟨B.number, B.version⟩]) (q := 1) ⟨by rfl, .inr ⟨wr.heap.size, 1, #[.int .i64 B.number, .int .i64 B.version], rfl, hB.size, heap_alloc_new wr _, Nat.le_refl _, by unfold maxLen; omega, rfl, by simp [enV]⟩⟩ (by unfold maxLen; simp)
    obtain ⟨j, hj⟩ : ∃ j, l[k]? = some j := ⟨l[k], List.getElem?_eq_getElem hlt⟩
    have hjl : j < x.copies.length := HIN.out j (List.mem_of_getElem? hj)
    obtain ⟨d, hd⟩ : ∃ d, x.copies[j]? = some d := ⟨x.copies[j], List.getElem?_eq_getElem hjl⟩
    obtain ⟨b4, o4, ea, hbl, hcl⟩ := pls_at HP.out hj
    cases ea
    obtain ⟨b5, o5, ea, _, hb2, hcc⟩ := HI.out.at hd
    cases ea
    have HRD := Hid.intro (rngScp hcc)
    have HC1 : Hid (w.cell? ⟨bl, ol + k, none⟩ = some (.int .i64 j)) := hcl
    have HNX : Hid (bestF x v.image (l.take (k + 1)) = if soonB x d B v.image = true then d else B) := by
     show _ = _
     rw [List.take_add_one, hj]
     show bestF x v.image (l.take k ++ [j]) = _
     rw [bestF_snoc x v.image _ (by intro e; have h8 := congrArg List.length e; rw [List.length_take, List.length_nil] at h8; omega), cAt_at hd, hBB]
    clear hcc hd hcl hj hBB
    go_upto_region 7 with fail
    have HSB : Hid (∀ wz, Below w.heap.size w wz → Blk w.heap.size #[.int .i64 x.now, .slice a1 x.services.length c1, .slice (some ⟨b2, o2, none⟩) x.copies.length c2, .slice a3 x.berths.length c3] 34 wz → Blk gb #[.string B.service, .int .i64 B.number, .int .i64 B.version, .int .i64 B.image, .int .i64 B.state, .bool B.ending, .string B.berth] 87 wz → Blk gs #[.string v.name, .int .i64 v.version, .bool v.gone, .int .i64 v.image, .int .i64 v.want, .int .i64 v.down, .int .i64 v.over, .int .i64 v.next, .int .i64 v.per, .int .i64 v.least, .int .i64 v.most, .int .i64 v.load, .int .i64 v.cool] 50 wz → (fun wy => Blk w.heap.size #[.int .i64 x.now, .slice a1 x.services.length c1, .slice (some ⟨b2, o2, none⟩) x.copies.length c2, .slice a3 x.berths.length c3] 34 wy ∧ wy.cell? ⟨bl, ol + k, none⟩ = some (.int .i64 j) ∧ wy.rangeAt b2 (o2 + j * 7) [.string d.service, .int .i64 d.number, .int .i64 d.version, .int .i64 d.image, .int .i64 d.state, .bool d.ending, .string d.berth] ∧ Blk gb #[.string B.service, .int .i64 B.number, .int .i64 B.version, .int .i64 B.image, .int .i64 B.state, .bool B.ending, .string B.berth] 87 wy ∧ Blk gs #[.string v.name, .int .i64 v.version, .bool v.gone, .int .i64 v.image, .int .i64 v.want, .int .i64 v.down, .int .i64 v.over, .int .i64 v.next, .int .i64 v.per, .int .i64 v.least, .int .i64 v.most, .int .i64 v.load, .int .i64 v.cool] 50 wy) wz) := fun wz hb h h2 h3 => ⟨h, (hb.cell (p := ⟨bl, ol + k, none⟩) hbl).trans HC1.out, rngB HRD.out hb hb2, h2, h3⟩
    refine wp_region_held_drew (S := fun wy => Blk w.heap.size #[.int .i64 x.now, .slice a1 x.services.length c1, .slice (some ⟨b2, o2, none⟩) x.copies.length c2, .slice a3 x.berths.length c3] 34 wy ∧ wy.cell? ⟨bl, ol + k, none⟩ = some (.int .i64 j) ∧ wy.rangeAt b2 (o2 + j * 7) [.string d.service, .int .i64 d.number, .int .i64 d.version, .int .i64 d.image, .int .i64 d.state, .bool d.ending, .string d.berth] ∧ Blk gb #[.string B.service, .int .i64 B.number, .int .i64 B.version, .int .i64 B.image, .int .i64 B.state, .bool B.ending, .string B.berth] 87 wy ∧ Blk gs #[.string v.name, .int .i64 v.version, .bool v.gone, .int .i64 v.image, .int .i64 v.want, .int .i64 v.down, .int .i64 v.over, .int .i64 v.next, .int .i64 v.per, .int .i64 v.least, .int .i64 v.most, .int .i64 v.load, .int .i64 v.cool] 50 wy) (by kernel_rfl) (HSB.out _ hB.drew HB.out.drew HG.out.drew HS.out.drew) (fun hS => ?_)
    have hB3 := hB.drew
    clear HB HG HS hB
    generalize wr.drew = w4 at *
    refine tm 0 26 w.heap.size 0 [.int .i64 x.now, .slice a1 x.services.length c1, .slice (some ⟨b2, o2, none⟩) x.copies.length c2, .slice a3 x.berths.length c3] rfl (fun _ h => h.1.rangeA) Tryz.underlying34 isz_Sbk hS ?_
    simp only [pA,pB,pC,pD]
    refine tz 1 27 (.pointer (some ⟨w.heap.size, 2, none⟩)) rfl hS ?_
    simp only [pA,pB,pC,pD]
    refine ty 2 ⟨some 28, _, _, _, _, none⟩ (.slice (some ⟨b2, o2, none⟩) x.copies.length c2) rfl (by rfl) ?_ hS ?_
    ·intro wy hy
     have h0 := hy.1.cell (o := 2) rfl
     clear hy
     go_simp
    simp only [pA,pB,pC,pD]
    refine tz 3 29 (.slice (some ⟨bl, ol, none⟩) l.length cl) rfl hS ?_
    simp only [pA,pB,pC,pD]
    refine tz 4 30 (.int .i64 k) rfl hS ?_
    simp only [pA,pB,pC,pD]
    refine ty 5 ⟨some 31, _, _, _, _, none⟩ (.pointer (some ⟨bl, ol + k, none⟩)) rfl (by rfl) ?_ hS ?_
    ·intro wy hy
     clear hy
     first | (go_simp; done) | (go_simp; omega) | (go_simp; intro hh; omega)
    simp only [pA,pB,pC,pD]
    refine ty 6 ⟨some 32, _, _, _, _, none⟩ (.int .i64 j) rfl (by rfl) ?_ hS ?_
    ·intro wy hy
     have h0 := hy.2.1
     clear hy
     go_simp
    simp only [pA,pB,pC,pD]
    refine ty 7 ⟨some 33, _, _, _, _, none⟩ (.pointer (some ⟨b2, o2 + j * 7, none⟩)) rfl (by rfl) ?_ hS ?_
    ·intro wy hy
     clear hy
     first | (go_simp; done) | (go_simp; omega) | (go_simp; intro hh; omega)
    simp only [pA,pB,pC,pD]
    refine tm 8 34 b2 (o2 + j * 7) [.string d.service, .int .i64 d.number, .int .i64 d.version, .int .i64 d.image, .int .i64 d.state, .bool d.ending, .string d.berth] rfl (fun _ h => h.2.2.1) Tryz.underlying87 isz_Scp hS ?_
    simp only [pA,pB,pC,pD]
    refine tm 9 35 gb 0 [.string B.service, .int .i64 B.number, .int .i64 B.version, .int .i64 B.image, .int .i64 B.state, .bool B.ending, .string B.berth] rfl (fun _ h => h.2.2.2.1.rangeA) Tryz.underlying87 isz_Scp hS ?_
    simp only [pA,pB,pC,pD]
    refine tz 10 36 (.pointer (some ⟨gs, 3, none⟩)) rfl hS ?_
    simp only [pA,pB,pC,pD]
    refine ty 11 ⟨some 37, _, _, _, _, none⟩ (.int .i64 v.image) rfl (by rfl) ?_ hS ?_
    ·intro wy hy
     have h0 := hy.2.2.2.2.cell (o := 3) rfl
     clear hy
     go_simp
    simp only [pA,pB,pC,pD]
    refine rd1 12 ⟨some 38, _, _, _, _, none⟩ rfl (fun K hK => ?_)
    go_simp
    refine (sooner_any x a1 c1 _ c2 a3 c3 lo d B v.image _ (HN3.out.below SbtC.holds hB3 (Nat.le_refl _)) hl3).mono ?_
    rintro e w5 ⟨rfl, hb3⟩
    have hB5 := hB3.trans (hb3.mono hB3.size)
    have HB5 := Hid.intro (hS.1.below hb3 hS.1.lt)
    have HG5 := Hid.intro (hS.2.2.2.1.below hb3 hS.2.2.2.1.lt)
    have HS5 := Hid.intro (hS.2.2.2.2.below hb3 hS.2.2.2.2.lt)
    clear hB3
    refine hK.out _ _ (HSB.out _ hB5 HB5.out HG5.out HS5.out) (fun hS => ?_)
    clear hK K
    clear hb3
    refine wpAnyH_done (by kernel_rfl) ?_ _
    clear hS
    cases hso : soonB x d B v.image with
    | false =>
     have HN : Hid (bestF x v.image (l.take (k + 1)) = B) := by show _ = _; rw [HNX.out, hso]; rfl
     clear hso HNX
     go_wp2_with fail
     go_roundw
     case rel => exact ⟨k + 1, by omega, by omega, by go_num, by rw [HN.out]; exact HG5, HB5, HS5, hB5⟩
     case measure => simp [intOf]; omega
    | true =>
     have HN : Hid (bestF x v.image (l.take (k + 1)) = d) := by show _ = _; rw [HNX.out, hso]; rfl
     clear hso HNX
     go_upto_region 8 with fail
     have HSB8 : Hid (∀ wz, Below w.heap.size w wz → Blk w.heap.size #[.int .i64 x.now, .slice a1 x.services.length c1, .slice (some ⟨b2, o2, none⟩) x.copies.length c2, .slice a3 x.berths.length c3] 34 wz → (fun wy => Blk w.heap.size #[.int .i64 x.now, .slice a1 x.services.length c1, .slice (some ⟨b2, o2, none⟩) x.copies.length c2, .slice a3 x.berths.length c3] 34 wy ∧ wy.cell? ⟨bl, ol + k, none⟩ = some (.int .i64 j) ∧ wy.rangeAt b2 (o2 + j * 7) [.string d.service, .int .i64 d.number, .int .i64 d.version, .int .i64 d.image, .int .i64 d.state, .bool d.ending, .string d.berth]) wz) := fun wz hb h => ⟨h, (hb.cell (p := ⟨bl, ol + k, none⟩) hbl).trans HC1.out, rngB HRD.out hb hb2⟩
     refine wp_region_held_drew (S := fun wy => Blk w.heap.size #[.int .i64 x.now, .slice a1 x.services.length c1, .slice (some ⟨b2, o2, none⟩) x.copies.length c2, .slice a3 x.berths.length c3] 34 wy ∧ wy.cell? ⟨bl, ol + k, none⟩ = some (.int .i64 j) ∧ wy.rangeAt b2 (o2 + j * 7) [.string d.service, .int .i64 d.number, .int .i64 d.version, .int .i64 d.image, .int .i64 d.state, .bool d.ending, .string d.berth]) (by kernel_rfl) (HSB8.out _ hB5.drew HB5.out.drew) (fun hS => ?_)
     have hB6 := hB5.drew
     have HB6 := Hid.intro HB5.out.drew
     have HG6 := Hid.intro HG5.out.drew
     have HS6 := Hid.intro HS5.out.drew
     clear HB5 HG5 HS5 hB5
     generalize w5.drew = w6 at *
     refine tz 0 39 (.pointer (some ⟨w.heap.size, 2, none⟩)) rfl hS ?_
     simp only [pA,pB,pC,pD]
     refine ty 1 ⟨some 40, _, _, _, _, none⟩ (.slice (some ⟨b2, o2, none⟩) x.copies.length c2) rfl (by rfl) ?_ hS ?_
     ·intro wy hy
      have h0 := hy.1.cell (o := 2) rfl
      clear hy
      go_simp
     simp only [pA,pB,pC,pD]
     refine tz 2 41 (.slice (some ⟨bl, ol, none⟩) l.length cl) rfl hS ?_
     simp only [pA,pB,pC,pD]
     refine tz 3 42 (.int .i64 k) rfl hS ?_
     simp only [pA,pB,pC,pD]
     refine ty 4 ⟨some 43, _, _, _, _, none⟩ (.pointer (some ⟨bl, ol + k, none⟩)) rfl (by rfl) ?_ hS ?_
     ·intro wy hy
      clear hy
      first | (go_simp; done) | (go_simp; omega) | (go_simp; intro hh; omega)
     simp only [pA,pB,pC,pD]
     refine ty 5 ⟨some 44, _, _, _, _, none⟩ (.int .i64 j) rfl (by rfl) ?_ hS ?_
     ·intro wy hy
      have h0 := hy.2.1
      clear hy
      go_simp
     simp only [pA,pB,pC,pD]
     refine ty 6 ⟨some 45, _, _, _, _, none⟩ (.pointer (some ⟨b2, o2 + j * 7, none⟩)) rfl (by rfl) ?_ hS ?_
     ·intro wy hy
      clear hy
      first | (go_simp; done) | (go_simp; omega) | (go_simp; intro hh; omega)
     simp only [pA,pB,pC,pD]
     refine tm 7 46 b2 (o2 + j * 7) [.string d.service, .int .i64 d.number, .int .i64 d.version, .int .i64 d.image, .int .i64 d.state, .bool d.ending, .string d.berth] rfl (fun _ h => h.2.2) Tryz.underlying87 isz_Scp hS ?_
     simp only [pA,pB,pC,pD]
     refine rd1 8 ⟨none, _, _, _, _, none⟩ rfl (fun KK hKK => ?_)
     rw [if_pos (by rfl)]
     refine wp_store_mid 87 (.tmp 7) (.tmp 46) (by rfl) gb 0 #[.string d.service, .int .i64 d.number, .int .i64 d.version, .int .i64 d.image, .int .i64 d.state, .bool d.ending, .string d.berth] (by rfl) (by rfl) HG6.out.there isz_Scp (by simp [Value.oneCell']) ?_
     have HG7 : Hid (Blk gb #[.string d.service, .int .i64 d.number, .int .i64 d.version, .int .i64 d.image, .int .i64 d.state, .bool d.ending, .string d.berth] 87 (w6.setCells gb 0 [.string d.service, .int .i64 d.number, .int .i64 d.version, .int .i64 d.image, .int .i64 d.state, .bool d.ending, .string d.berth])) := HG6.out.setAll #[.string d.service, .int .i64 d.number, .int .i64 d.version, .int .i64 d.image, .int .i64 d.state, .bool d.ending, .string d.berth] rfl
     have HB7 : Hid (Blk w.heap.size #[.int .i64 x.now, .slice a1 x.services.length c1, .slice (some ⟨b2, o2, none⟩) x.copies.length c2, .slice a3 x.berths.length c3] 34 (w6.setCells gb 0 [.string d.service, .int .i64 d.number, .int .i64 d.version, .int .i64 d.image, .int .i64 d.state, .bool d.ending, .string d.berth])) := blk_setCells_other (by omega) _ _ _ HB6.out
     have HS7 : Hid (Blk gs #[.string v.name, .int .i64 v.version, .bool v.gone, .int .i64 v.image, .int .i64 v.want, .int .i64 v.down, .int .i64 v.over, .int .i64 v.next, .int .i64 v.per, .int .i64 v.least, .int .i64 v.most, .int .i64 v.load, .int .i64 v.cool] 50 (w6.setCells gb 0 [.string d.service, .int .i64 d.number, .int .i64 d.version, .int .i64 d.image, .int .i64 d.state, .bool d.ending, .string d.berth])) := blk_setCells_other (by omega) _ _ _ HS6.out
     have hB7 : Below w.heap.size w (w6.setCells gb 0 [.string d.service, .int .i64 d.number, .int .i64 d.version, .int .i64 d.image, .int .i64 d.state, .bool d.ending, .string d.berth]) := below_setCells (by omega) _ _ _ hB6
     refine hKK.out _ _ (HSB8.out _ hB7 HB7.out) (fun hS => ?_)
     clear hKK KK hS
     refine wpAnyH_done (by kernel_rfl) ?_ _
     go_wp2_with fail
     go_roundw
     case rel => exact ⟨k + 1, by omega, by omega, by go_num, by rw [HN.out]; exact HG7, HB7, HS7, hB7⟩
     case measure => simp [intOf]; omega

end Go.Proofs.YtnggdpjfmpjlhaaGreat
