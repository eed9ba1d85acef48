import Derived.Shelf.Spec.SlicesInsert
import Derived.Lib.AppendZerosOnto
import Derived.Laws.NewBlocks
import Derived.Deep.RegionLaw
import Derived.Test.YtebfdgfhadpieaaGreatJ43
namespace Go.Proofs.YtebfdgfhadpieaaGreat
open Go.RowKit Go.Lib Go.Shelf
theorem run_copy_k {P : Program} (w : World) (dT sT ty elem : TypeId) (k : Nat) (b o dLen dCap : Nat) (a : Addr) (sLen sCap : Nat) (cs : List Value)
  (hu : P.underlying dT = some (.slice elem)) (hs : (P.info? elem).map (·.size) = some k) (hn : cs.length = Nat.min sLen dLen * k)
  (hsrc : ∀ j v, cs[j]? = some v → w.cell? (a.add j) = some v) (hc : ∀ j, j < cs.length → (w.cell? ⟨b, o + j, none⟩).isSome = true) (hf : ∀ j, j < cs.length → w.frozen? ⟨b, o + j, none⟩ = false) (h1 : ∀ v ∈ cs, v.oneCell' = true) :
  (Builtin.copy_ #[dT, sT] ty #[.slice (some ⟨b, o, none⟩) dLen dCap, .slice (some a) sLen sCap]).run P w = .ok (goInt (Nat.min sLen dLen)) (w.setCells b o cs) := by
 have hl := run_loadCells_list (P := P) w a cs hsrc
 have hst := run_storeCells_cells (P := P) b o cs 0 w (by simpa using hc) (by simpa using hf) h1
 cases hq : P.info? elem with
 | none => simp [hq] at hs
 | some i =>
  have hi : i.size = k := by simpa [hq] using hs
  simp [Builtin.copy_, run_underlying hu, Builtin.lenOf, Builtin.firstCells, sizeOf, typeInfo, hq, hi, ← hn, hl, hst]
theorem isz_Rsn : (Tryz.prog.info? 159).map (·.size) = some 2 := by kernel_rfl
theorem info_Rsn : ∃ i, Tryz.prog.info? 159 = some i ∧ i.zero = some (.agg #[.int .i64 0, .nilFunc]) ∧ i.size = 2 ∧ i.bytes = 16 := by
 have h : (Tryz.prog.info? 159).map (fun i => (i.zero, i.size, i.bytes)) = some (some (.agg #[.int .i64 0, .nilFunc]), 2, 16) := by kernel_rfl
 cases hq : Tryz.prog.info? 159 with
 | none => rw [hq] at h; cases h
 | some i =>
  rw [hq] at h
  simp at h
  exact ⟨i, rfl, h.1, h.2.1, h.2.2⟩
set_option maxHeartbeats 2000000 in
set_option maxRecDepth 100000 in
theorem insert_any (b vb : Nat) (cs vs : List Value) (w : World) (hcl : cs.length = 14) (hvl : vs.length = 2)
  (hcs : ∀ j v, cs[j]? = some v → w.cell? ⟨b, j, none⟩ = some v) (hvs : ∀ j v, vs[j]? = some v → w.cell? ⟨vb, j, none⟩ = some v) (h1c : ∀ v ∈ cs, v.oneCell' = true) (h1v : ∀ v ∈ vs, v.oneCell' = true) :
  Calls Tryz.prog 99 #[.slice (some ⟨b, 0, none⟩) 7 7, .int .i64 0, .slice (some ⟨vb, 0, none⟩) 1 1] w fun e w' => ∃ G, e = .returned (.slice (some ⟨w.heap.size, 0, none⟩) 8 G) ∧ w'.rangeAt w.heap.size 0 (vs ++ cs) ∧ w.heap.size < w'.heap.size ∧ Below w.heap.size w w' := by
 obtain ⟨i0, hi0, hz0, hzs, hzb⟩ := info_Rsn
 have hsz := isz_Rsn
 have hbw : b < w.heap.size := block_lt_of_cell (hcs 0 _ (List.getElem?_eq_getElem (by omega)))
 have hvw : vb < w.heap.size := block_lt_of_cell (hvs 0 _ (List.getElem?_eq_getElem (by omega)))
 have hold : (Builtin.firstCells i0.size 0 (.slice (some ⟨b, 0, none⟩) 0 7)).run Tryz.prog w.drew = .ok ([] : List Value).toArray w.drew := by
  rw [hzs]
  exact run_firstCells_some w.drew 2 0 ⟨b, 0, none⟩ 0 7 [] (by simp) (fun j v hj => by simp at hj)
 have hrz : ∀ ty, (Builtin.append_ #[126, 3] ty #[.slice (some ⟨b, 0, none⟩) 0 7, .int .i64 8]).run Tryz.prog w =
   .ok (.slice (some ⟨w.heap.size, 0, none⟩) 8 (grownCap w 8 7 159)) (w.drew.alloc (.cells (([] : List Value).toArray ++ Builtin.zeroCells (Value.agg #[.int .i64 0, .nilFunc]).cells 8 ++ Builtin.zeroCells (Value.agg #[.int .i64 0, .nilFunc]).cells (grownCap w 8 7 159 - 8)) 159)) := fun ty => by
  exact Lib.run_append_grow_zeros w 126 3 ty 159 i0 _ .i64 .i64 Tryz.underlying126 Tryz.underlying3 hi0 hz0 (some ⟨b, 0, none⟩) 0 7 [] hold 8 (by omega) (by omega) (by omega) (by omega) (by rw [hzb]; omega) (by rw [hzb]; exact growslice_fits (by omega) (by omega))
 obtain ⟨G, hG⟩ : ∃ G, G = grownCap w 8 7 159 := ⟨_, rfl⟩
 obtain ⟨ROW, hROW⟩ : ∃ ROW : Array Value, ROW = ([] : List Value).toArray ++ Builtin.zeroCells (Value.agg #[.int .i64 0, .nilFunc]).cells 8 ++ Builtin.zeroCells (Value.agg #[.int .i64 0, .nilFunc]).cells (G - 8) := ⟨_, rfl⟩
 rw [← hG] at hrz
 rw [← hROW] at hrz
 have hRl : 16 ≤ ROW.size := by
  rw [hROW]
  simp [Builtin.zeroCells, Value.cells]
 obtain ⟨W1, hW1⟩ : ∃ W1, W1 = w.drew.alloc (.cells ROW 159) := ⟨_, rfl⟩
 rw [← hW1] at hrz
 have hN : ∀ j, j < 16 → (W1.cell? ⟨w.heap.size, j, none⟩).isSome = true := fun j hj => by
  rw [hW1, World.cell?_alloc_at (w := w.drew) ROW _ w.heap.size j rfl, Array.getElem?_eq_getElem (by omega)]; rfl
 have hNf : ∀ j, W1.frozen? ⟨w.heap.size, j, none⟩ = false := fun j => by rw [hW1]; exact World.frozen?_alloc_at (w := w.drew) ROW _ w.heap.size j rfl
 have hOb : ∀ j v, w.cell? ⟨b, j, none⟩ = some v → W1.cell? ⟨b, j, none⟩ = some v := fun j v h => by rw [hW1, World.cell?_alloc_past (w := w.drew) _ b j hbw]; exact h
 have hOv : ∀ j v, w.cell? ⟨vb, j, none⟩ = some v → W1.cell? ⟨vb, j, none⟩ = some v := fun j v h => by rw [hW1, World.cell?_alloc_past (w := w.drew) _ vb j hvw]; exact h
 have hcpA : ∀ (W : World), (∀ x, W.cell? x = W1.cell? x) → (∀ x, W.frozen? x = W1.frozen? x) → ∀ ty dc, (Builtin.copy_ #[126, 126] ty #[.slice (some ⟨w.heap.size, 0, none⟩) 8 dc, .slice (some ⟨vb, 0, none⟩) 1 1]).run Tryz.prog W = .ok (goInt 1) (W.setCells w.heap.size 0 vs) := fun W hWc hWf ty dc =>
  run_copy_k W _ _ ty 159 2 w.heap.size 0 8 dc ⟨vb, 0, none⟩ 1 1 vs Tryz.underlying126 hsz (by rw [hvl]; rfl)
   (fun j v hj => by rw [Addr.add_lit, hWc]; exact hOv _ v (by simpa using hvs j v hj))
   (fun j hj => by rw [hWc]; exact hN _ (by omega)) (fun j hj => by rw [hWf]; exact hNf _) h1v
 have hbN : b ≠ w.heap.size := by omega
 have hcpB : ∀ (W : World), (∀ x, W.cell? x = (W1.setCells w.heap.size 0 vs).cell? x) → (∀ x, W.frozen? x = (W1.setCells w.heap.size 0 vs).frozen? x) → ∀ ty dc sc, (Builtin.copy_ #[126, 126] ty #[.slice (some ⟨w.heap.size, 2, none⟩) 7 dc, .slice (some ⟨b, 0, none⟩) 7 sc]).run Tryz.prog W = .ok (goInt 7) (W.setCells w.heap.size 2 cs) := fun W hWc hWf ty dc sc =>
  run_copy_k W _ _ ty 159 2 w.heap.size 2 7 dc ⟨b, 0, none⟩ 7 sc cs Tryz.underlying126 hsz (by rw [hcl]; rfl)
   (fun j v hj => by
    rw [Addr.add_lit, hWc, World.cell?_setCells_out _ _ _ _ _ (fun h _ => absurd h hbN)]
    exact hOb _ v (by simpa using hcs j v hj))
   (fun j hj => by rw [hWc]; exact isSome_setCells _ _ _ _ (fun t ht => hN _ (by omega)) _ (hN _ (by omega)))
   (fun j hj => by rw [hWf, World.frozen?_setCells]; exact hNf _) h1c
 have hGn : 8 ≤ G := by rw [hG]; exact grownCap_ge w _ _ _
 have hG63 : G ≤ 9223372036854775807 := by
  have := grownCap_le_maxLen w 8 7 159 (by unfold maxLen; omega)
  rw [← hG] at this
  unfold maxLen at this
  omega
 subst hW1
 have hE1 : ∀ x, ((w.alloc (.cells ROW 159)).drew).cell? x = (w.drew.alloc (.cells ROW 159)).cell? x := fun x => rfl
 have hE2 : ∀ x, ((w.alloc (.cells ROW 159)).drew).frozen? x = (w.drew.alloc (.cells ROW 159)).frozen? x := fun x => rfl
 have hF1 : ∀ x, (((w.alloc (.cells ROW 159)).drew.setCells w.heap.size 0 vs).drew).cell? x = ((w.drew.alloc (.cells ROW 159)).setCells w.heap.size 0 vs).cell? x := fun x => rfl
 have hF2 : ∀ x, (((w.alloc (.cells ROW 159)).drew.setCells w.heap.size 0 vs).drew).frozen? x = ((w.drew.alloc (.cells ROW 159)).setCells w.heap.size 0 vs).frozen? x := fun x => rfl
 have mixed : Tryz.prog.follows Departure.mixedOrders = true := by kernel_rfl
 have hw1 : IntKind.i64.wrap 1 = 1 := by rw [IntKind.wrap_i64]; omega
 have hG1 : ¬ (G = 1) := by omega
 clear hold hG hROW
 go_enter Tryz.func99, Tryz.ntmps99
 go_wp2_with (first
  | (at_builtin; refine Lib.wpList_append_run _ rfl _ _ _ _ rfl _ _ rfl rfl _ _ (hrz _) ?_)
  | (at_builtin; refine wpList_copy_runI _ rfl _ _ 126 126 rfl _ _ rfl rfl (hcpA _ hE1 hE2 _ _) ?_))
 go_region_law_o (refine step_copy_runI rfl _ _ 126 126 rfl (.slice (some ⟨w.heap.size, 2, none⟩) 7 (G - 1)) (.slice (some ⟨b, 0, none⟩) 7 7) (by simp [Act.eval, Act.put]) (by simp [Act.eval, Act.put]) (hcpB _ hF1 hF2 3 (G - 1) 7) ?_)
 go_wp2
 go_ret
 have hbl : Below w.heap.size w ((((w.alloc (.cells ROW 159)).drew.setCells w.heap.size 0 vs).drew).setCells w.heap.size 2 cs) := below_setCells nL _ _ _ (below_setCells nL _ _ _ ((Below.refl _ w).alloc nL _).drew).drew
 refine ⟨G, rfl, ?_, ?_, hbl⟩
 ·have hR1 : (((w.alloc (.cells ROW 159)).drew.setCells w.heap.size 0 vs).drew).rangeAt w.heap.size 0 vs := World.rangeAt_setCells_same _ w.heap.size 0 vs (fun j hj => ⟨hN _ (by omega), hNf _⟩)
  have hR2 := World.rangeAt_setCells_same (((w.alloc (.cells ROW 159)).drew.setCells w.heap.size 0 vs).drew) w.heap.size 2 cs (fun j hj => ⟨by rw [hF1]; exact isSome_setCells _ _ _ _ (fun t ht => hN _ (by omega)) _ (hN _ (by omega)), by rw [hF2, World.frozen?_setCells]; exact hNf _⟩)
  intro j v hj
  rw [List.getElem?_append] at hj
  split at hj
  ·rename_i h
   rw [World.cell?_setCells_out _ _ _ _ _ (fun _ _ => Or.inl (by show 0 + j < 2; omega))]
   exact hR1 j v hj
  ·have := hR2 (j - 2) v (by rw [hvl] at hj; exact hj)
   rwa [show 2 + (j - 2) = 0 + j by omega] at this
 ·exact Nat.lt_of_lt_of_le (by simp) (below_setCells (B := 0) (Nat.zero_le _) _ _ _ (below_setCells (B := 0) (Nat.zero_le _) _ _ _ (Below.refl _ ((w.alloc (.cells ROW 159)).drew))).drew).size
end Go.Proofs.YtebfdgfhadpieaaGreat
namespace Go.Proofs.YtebfdgfhadpieaaGreat
open Go.RowKit Go.WideMaps Go.Maps
def firstR : List (Int × Nat × Bool) → Int
 | [] => 0
 | r :: rest => if r.2.2 = true then r.1 else firstR rest
theorem firstR_hit : ∀ (rs : List (Int × Nat × Bool)) (k : Nat) (r : Int × Nat × Bool), rs[k]? = some r → r.2.2 = true → (∀ (j : Nat) q, j < k → rs[j]? = some q → q.2.2 = false) → firstR rs = r.1
 | [], k, r, h, _, _ => by simp at h
 | a :: rest, 0, r, h, ht, _ => by
  simp at h
  subst h
  simp [firstR, ht]
 | a :: rest, k + 1, r, h, ht, hf => by
  have h0 := hf 0 a (by omega) rfl
  simp only [firstR, h0]
  rw [if_neg (by simp)]
  exact firstR_hit rest k r (by simpa using h) ht (fun j q hj hq => hf (j + 1) q (by omega) (by simpa using hq))
theorem firstR_none : ∀ (rs : List (Int × Nat × Bool)), (∀ (j : Nat) q, j < rs.length → rs[j]? = some q → q.2.2 = false) → firstR rs = 0
 | [], _ => rfl
 | a :: rest, hf => by
  have h0 := hf 0 a (by simp) rfl
  simp only [firstR, h0]
  rw [if_neg (by simp)]
  exact firstR_none rest (fun j q hj hq => hf (j + 1) q (by simp; omega) (by simpa using hq))
def RsnIn (rb : Nat) (rs : List (Int × Nat × Bool)) (w : World) : Prop := ∀ (k : Nat) r, rs[k]? = some r → w.cell? ⟨rb, k * 2, none⟩ = some (.int .i64 r.1) ∧ w.cell? ⟨rb, k * 2 + 1, none⟩ = some (.func (.func r.2.1) #[] #[])
theorem some_ne {α : Type} {l : List α} {k : Nat} {a : α} (h : l[k]? = some a) : l ≠ [] := fun e => by rw [e] at h; cases h
theorem services_ne {x : Flt} (hv : validI x = true) {k : Nat} {c : Cpy} (h : x.copies[k]? = some c) : x.services ≠ [] := by
 obtain ⟨_, _, _, _, _, hs⟩ := valid_parts hv
 obtain ⟨j, hj⟩ := hs k c h
 intro e
 rw [e] at hj
 cases hj
set_option maxHeartbeats 2000000 in
set_option maxRecDepth 100000 in
theorem firstOf_any (W : World) (lo p m1 m2 m3 m4 ci bi : Nat) (x : Flt) (a1 : Option Addr) (c1 : Nat) (a2 : Option Addr) (c2 : Nat) (a3 : Option Addr) (c3 : Nat) (y : Cpy) (a7 : Option Addr) (c7 : Nat) (b : Brt) (am : Option Addr) (cm : Nat) (u1 u2 u3 : Int) (rs : List (Int × Nat × Bool)) (rb rc n : Nat) (w : World) (hK : SpotK W lo p m4 ci bi x a1 a3 y a7 b am) (hrl : rs.length ≤ 8) (hn : n ≤ 800)
  (hsay : ∀ (k : Nat) r, rs[k]? = some r → Says r.2.1 r.2.2 W p m1 m2 m3 m4 ci bi x a1 c1 a2 c2 a3 c3 y a7 c7 b am cm u1 u2 u3) (heg : ∀ (k : Nat) r, rs[k]? = some r → ∀ args w, (callFunc r.2.1 args).run Tryz.prog w = .ok (.enter r.2.1 args) w)
  (hW : Below W.heap.size W w) (hF : FoundM p m1 m2 m3 m4 n x a1 c1 a2 c2 a3 c3 w) (hR : RsnIn rb rs w) (hrb : rb < w.heap.size) (hrm : rb ≠ m4) :
  Calls Tryz.prog 79 #[.slice (some ⟨rb, 0, none⟩) rs.length rc, .agg (spotA p ci bi y a7 c7 b am cm u1 u2 u3)] w fun e w' => e = .returned (.int .i64 (firstR rs)) ∧ MemoAt m4 (n + 8) x.berths w' ∧ But m4 w.heap.size w w' := by
 obtain ⟨hp, hm4, n1, n3, n7, nm, hv, hy, hb⟩ := hK
 have e1 := some_ne hb
 have e2 := services_ne hv hy
 have e3 := some_ne hy
 have hm4w : m4 < w.heap.size := hF.memo.lt
 have HW := iH hW
 have HF := iH hF
 have HR := iH hR
 have HSAY := iH hsay
 have HEG := iH heg
 have HE1 := iH e1
 have HE2 := iH e2
 have HE3 := iH e3
 clear n1 n3 n7 nm hv hy hb hW hF hR hsay heg e1 e2 e3
 go_enter Tryz.func79, Tryz.ntmps79
 go_wp2_with fail
 have hb0 : Below w.heap.size w (w.alloc (Obj.cells (spotA p ci bi y a7 c7 b am cm u1 u2 u3) 131)) := (Below.refl _ w).alloc nL _
 have HX0 : Hid (Blk w.heap.size (spotA p ci bi y a7 c7 b am cm u1 u2 u3) 131 (w.alloc (Obj.cells (spotA p ci bi y a7 c7 b am cm u1 u2 u3) 131))) := Blk.alloc _ _ _
 have HF0 := iH (HF.out.below hb0)
 have HB0 : Hid (But m4 w.heap.size w (w.alloc (Obj.cells (spotA p ci bi y a7 c7 b am cm u1 u2 u3) 131))) := But.of_below hb0
 have hs0 : w.heap.size < (w.alloc (Obj.cells (spotA p ci bi y a7 c7 b am cm u1 u2 u3) 131)).heap.size := by simp
 generalize w.alloc (Obj.cells (spotA p ci bi y a7 c7 b am cm u1 u2 u3) 131) = w0 at *
 clear hb0
 go_loopw [9] (fun i wr => ∃ k : Nat, k ≤ rs.length ∧ i = .int .i64 k ∧ w.heap.size < wr.heap.size ∧ Hid (∀ (j : Nat) q, j < k → rs[j]? = some q → q.2.2 = false) ∧ Hid (FoundM p m1 m2 m3 m4 (n + k) x a1 c1 a2 c2 a3 c3 wr) ∧ Hid (Blk w.heap.size (spotA p ci bi y a7 c7 b am cm u1 u2 u3) 131 wr) ∧ Hid (But m4 w.heap.size w wr)) (fun i _ => rs.length - (intOf i).toNat)
 case atStart => exact ⟨0, Nat.zero_le _, rfl, hs0, fun j q h => by omega, HF0, HX0, HB0⟩
 case round =>
  clear HF0 HX0 HB0 hs0
  obtain ⟨k, hk, rfl, hs1, hN, hF1, hX1, hB1⟩ := hrel
  by_cases hlt : k < rs.length
  ·obtain ⟨r, hr⟩ : ∃ r, rs[k]? = some r := ⟨rs[k], List.getElem?_eq_getElem hlt⟩
   obtain ⟨q0, q1⟩ := HR.out k r hr
   have c0 : wr.cell? ⟨rb, k * 2, none⟩ = some (.int .i64 r.1) := (hB1.out.cell (a := ⟨rb, k * 2, none⟩) hrb hrm).trans q0
   have c1' : wr.cell? ⟨rb, k * 2 + 1, none⟩ = some (.func (.func r.2.1) #[] #[]) := (hB1.out.cell (a := ⟨rb, k * 2 + 1, none⟩) hrb hrm).trans q1
   have HSK := iH (HSAY.out k r hr)
   have heg := HEG.out k r hr
   have HRR := iH hr
   obtain ⟨cd, fid, tr⟩ := r
   simp only at c0 c1' HSK heg
   clear q0 q1 hr
   have hza : Blk wr.heap.size #[.int .i64 0, .nilFunc] 159 (wr.alloc (Obj.cells #[.int .i64 0, .nilFunc] 159)) := Blk.alloc _ _ _
   have HTS : Hid ((wr.alloc (Obj.cells #[.int .i64 0, .nilFunc] 159)).there wr.heap.size 0 2) := hza.there
   obtain ⟨w4, HW4⟩ : ∃ w4, Hid (w4 = (wr.alloc (Obj.cells #[.int .i64 0, .nilFunc] 159)).setCells wr.heap.size 0 [.int .i64 cd, .func (.func fid) #[] #[]]) := ⟨_, rfl⟩
   have HK4 : Hid (Blk wr.heap.size #[.int .i64 cd, .func (.func fid) #[] #[]] 159 w4) := by
    show Blk _ _ _ _
    rw [HW4.out]
    exact hza.setAll #[.int .i64 cd, .func (.func fid) #[] #[]] rfl
   have hbx : Below wr.heap.size wr w4 := by
    rw [HW4.out]
    exact below_setCells nL _ _ _ ((Below.refl _ wr).alloc nL _)
   have HF4 := iH (hF1.out.below hbx)
   have HX4 := iH (hX1.out.below hbx hX1.out.lt)
   have HB4 : Hid (But m4 w.heap.size w w4) := hB1.out.trans (But.of_below (hbx.mono (Nat.le_of_lt hs1)))
   have hs4 : wr.heap.size < w4.heap.size := HK4.out.lt
   clear hza
   go_upto_region 4 with (first | (refine wpList_store_to rfl 159 _ _ rfl wr.heap.size 0 #[.int .i64 cd, .func (.func fid) #[] #[]] rfl rfl HTS.out isz_Rsn (by simp [Value.oneCell']) w4 HW4.out ?_))
   have k1 : w4.cell? ⟨wr.heap.size, 1, none⟩ = some (.func (.func fid) #[] #[]) := HK4.out.cell rfl
   clear hbx hF1 hX1 hB1 c0 c1'
   go_wp2_with (first | (refine wpList_load_mid rfl 131 _ rfl w.heap.size 0 (by first | rfl | (simp [go_sem]; done)) (spotA p ci bi y a7 c7 b am cm u1 u2 u3).toList _ HX4.out.rangeA Tryz.underlying131 rfl isz_Spot ?_))
   refine (HSK.out (n + k) w4 (by omega) (HW.out.trans (HB4.out.below HW.out.size hm4)) HF4.out).mono ?_
   rintro e w5 ⟨rfl, hm5, hb5⟩
   have HM5 := iH hm5
   have HF5 : Hid (FoundM p m1 m2 m3 m4 (n + (k + 1)) x a1 c1 a2 c2 a3 c3 w5) := HF4.out.but hb5 hm5 HE1.out HE2.out HE3.out
   have HB5 : Hid (But m4 w.heap.size w w5) := HB4.out.trans (hb5.mono (by omega))
   have HX5 : Hid (Blk w.heap.size (spotA p ci bi y a7 c7 b am cm u1 u2 u3) 131 w5) := (hb5.block w.heap.size (by omega) (by omega)).trans HX4.out
   have k0 : w5.cell? ⟨wr.heap.size, 0, none⟩ = some (.int .i64 cd) := (hb5.cell (a := ⟨wr.heap.size, 0, none⟩) hs4 (by show wr.heap.size ≠ m4; omega)).trans (HK4.out.cell rfl)
   have hs5 : w.heap.size < w5.heap.size := by have := hb5.size; omega
   clear hm5 hb5 k1 heg HSK
   cases tr with
   | true =>
    have HE := iH (firstR_hit rs k _ HRR.out rfl hN.out)
    go_wp2_with fail
    go_ret
    exact ⟨ret_int HE.out.symm, HM5.out.mono (by omega), HB5.out⟩
   | false =>
    have HN2 : Hid (∀ (j : Nat) q, j < k + 1 → rs[j]? = some q → q.2.2 = false) := fun j q hj hq => by
     by_cases e : j = k
     ·subst e
      have := HRR.out.symm.trans hq
      cases this
      rfl
     ·exact hN.out j q (by omega) hq
    go_wp2_with fail
    go_roundw
    case rel => exact ⟨k + 1, by omega, by go_num, hs5, HN2, HF5, HX5, HB5⟩
    case measure => simp [intOf]; omega
  ·have hke : k = rs.length := by omega
   subst hke
   have HE := iH (firstR_none rs hN.out)
   go_wp2_with fail
   go_ret
   exact ⟨ret_int HE.out.symm, hF1.out.memo.mono (by omega), hB1.out⟩
end Go.Proofs.YtebfdgfhadpieaaGreat
namespace Go.Proofs.YtebfdgfhadpieaaGreat
open Go.RowKit
abbrev stayV : List Value := [.int .i64 2, .func (.func 120) #[] #[], .int .i64 3, .func (.func 121) #[] #[], .int .i64 4, .func (.func 122) #[] #[], .int .i64 5, .func (.func 123) #[] #[], .int .i64 6, .func (.func 124) #[] #[], .int .i64 7, .func (.func 125) #[] #[], .int .i64 8, .func (.func 126) #[] #[]]
abbrev comeV : List Value := [.int .i64 1, .func (.func 101) #[] #[], .int .i64 2, .func (.func 120) #[] #[], .int .i64 3, .func (.func 121) #[] #[], .int .i64 4, .func (.func 122) #[] #[], .int .i64 5, .func (.func 123) #[] #[], .int .i64 6, .func (.func 124) #[] #[], .int .i64 7, .func (.func 125) #[] #[], .int .i64 8, .func (.func 126) #[] #[]]
set_option maxHeartbeats 1000000 in
set_option maxRecDepth 100000 in
theorem stay_any (w : World) :
  Calls Tryz.prog 100 #[] w fun e w' => e = .returned (.slice (some ⟨w.heap.size, 0, none⟩) 7 7) ∧ w'.rangeAt w.heap.size 0 stayV ∧ w.heap.size < w'.heap.size ∧ Below w.heap.size w w' := by
 go_enter Tryz.func100, Tryz.ntmps100
 go_wp2_with fail
 go_ret
 refine ⟨rfl, ?_, ?_, ?_⟩
 ·exact range_cons (by simp) (range_cons (by simp) (range_cons (by simp) (range_cons (by simp) (range_cons (by simp) (range_cons (by simp) (range_cons (by simp) (range_cons (by simp) (range_cons (by simp) (range_cons (by simp) (range_cons (by simp) (range_cons (by simp) (range_cons (by simp) (range_cons (by simp) (range_nil _ _ _))))))))))))))
 ·simp
 ·go_grown
set_option maxHeartbeats 1000000 in
set_option maxRecDepth 100000 in
theorem come_any (w : World) :
  Calls Tryz.prog 77 #[] w fun e w' => ∃ g G, e = .returned (.slice (some ⟨g, 0, none⟩) 8 G) ∧ w'.rangeAt g 0 comeV ∧ w.heap.size ≤ g ∧ g < w'.heap.size ∧ Below w.heap.size w w' := by
 go_enter Tryz.func77, Tryz.ntmps77
 go_wp2_with fail
 refine (stay_any _).mono ?_
 rintro e w1 ⟨rfl, hr, hs, hb⟩
 have HR := iH hr
 have HB := iH hb
 clear hr hb
 go_wp2_with fail
 have hb2 : Below w1.heap.size w1 (w1.alloc (Obj.cells #[.int .i64 1, .func (.func 101) #[] #[]] 159)) := (Below.refl _ w1).alloc nL _
 refine (insert_any w.heap.size w1.heap.size stayV [.int .i64 1, .func (.func 101) #[] #[]] _ rfl rfl ?_ ?_ ?_ ?_).mono ?_
 ·intro j v hj
  rw [hb2.cell (p := ⟨w.heap.size, j, none⟩) hs]
  have := HR.out j v hj
  rwa [Nat.zero_add] at this
 ·have hq : (w1.alloc (Obj.cells #[.int .i64 1, .func (.func 101) #[] #[]] 159)).rangeAt w1.heap.size 0 [.int .i64 1, .func (.func 101) #[] #[]] := range_cons (by simp) (range_cons (by simp) (range_nil _ _ _))
  intro j v hj
  have := hq j v hj
  rwa [Nat.zero_add] at this
 ·intro v hv
  simp at hv
  rcases hv with rfl | rfl | rfl | rfl | rfl | rfl | rfl | rfl | rfl | rfl | rfl | rfl | rfl | rfl <;> rfl
 ·intro v hv
  simp at hv
  rcases hv with rfl | rfl <;> rfl
 rintro e w3 ⟨G, rfl, hr3, hs3, hb3⟩
 have HB3 : Hid (Below w.heap.size w w3) := HB.out.trans ((hb2.trans (hb3.mono (by simp))).mono HB.out.size)
 have hq : (w1.alloc (Obj.cells #[.int .i64 1, .func (.func 101) #[] #[]] 159)).heap.size = w1.heap.size + 1 := by simp
 rw [hq] at hr3 hs3
 have HR3 : Hid (w3.rangeAt (w1.heap.size + 1) 0 comeV) := hr3
 have hsz : w.heap.size ≤ w1.heap.size + 1 := by have := HB.out.size; omega
 clear hr3 hb3 hb2
 go_wp2_with fail
 go_ret
 exact ⟨_, G, rfl, HR3.out, hsz, hs3, HB3.out⟩
end Go.Proofs.YtebfdgfhadpieaaGreat
namespace Go.Proofs.YtebfdgfhadpieaaGreat
open Go.RowKit Go.WideMaps Go.Maps
def stayR (x : Flt) (ci : Nat) (y : Cpy) (b : Brt) (u1 u2 u3 : Int) : List (Int × Nat × Bool) := [(2, 120, elsI y b), (3, 121, !asksI y.select b.marks b.zone), (4, 122, togI x ci y b), (5, 123, farI x ci y b), (6, 124, decide (10 ≤ u1)), (7, 125, decide (b.room < u2 + y.room)), (8, 126, decide (b.hold < u3 + y.hold))]
def comeR (x : Flt) (ci : Nat) (y : Cpy) (b : Brt) (u1 u2 u3 : Int) : List (Int × Nat × Bool) := (1, 101, b.closed) :: stayR x ci y b u1 u2 u3
theorem come_first {x : Flt} {ci : Nat} {y : Cpy} {b : Brt} {u1 u2 u3 : Int} (h1 : u1 = standTo x ci b.name x.copies.length) (h2 : u2 = roomTo x ci b.name x.copies.length) (h3 : u3 = holdTo x ci b.name x.copies.length) : firstR (comeR x ci y b u1 u2 u3) = fitsI x ci y b false := by
 unfold comeR stayR fitsI
 simp only [firstR, decide_eq_true_eq, Bool.not_eq_true', Bool.not_false, Bool.and_true]
 rw [h1, h2, h3]
theorem says_of {f : Nat} {t : Bool} (W : World) (_lo p m1 m2 m3 m4 ci bi : Nat) (x : Flt) (a1 : Option Addr) (c1 : Nat) (a2 : Option Addr) (c2 : Nat) (a3 : Option Addr) (c3 : Nat) (y : Cpy) (a7 : Option Addr) (c7 : Nat) (b : Brt) (am : Option Addr) (cm : Nat) (u1 u2 u3 : Int) (h : ∀ w, Calls Tryz.prog f #[.agg (spotA p ci bi y a7 c7 b am cm u1 u2 u3)] w fun e w' => e = .returned (.bool t) ∧ Below w.heap.size w w') : Says f t W p m1 m2 m3 m4 ci bi x a1 c1 a2 c2 a3 c3 y a7 c7 b am cm u1 u2 u3 :=
 fun _ w _ _ hF => (h w).mono (fun _ _ ⟨he, hb⟩ => ⟨he, (hF.memo.below hb hF.memo.lt).mono (Nat.le_succ _), But.of_below hb⟩)
theorem come_says (W : World) (lo p m1 m2 m3 m4 ci bi : Nat) (x : Flt) (a1 : Option Addr) (c1 : Nat) (a2 : Option Addr) (c2 : Nat) (a3 : Option Addr) (c3 : Nat) (y : Cpy) (a7 : Option Addr) (c7 : Nat) (b : Brt) (am : Option Addr) (cm : Nat) (u1 u2 u3 : Int) (hK : SpotK W lo p m4 ci bi x a1 a3 y a7 b am) (h1 : 0 ≤ u2 ∧ u2 ≤ 60000) (h2 : 0 ≤ u3 ∧ u3 ≤ 60000) : ∀ r, r ∈ comeR x ci y b u1 u2 u3 → Says r.2.1 r.2.2 W p m1 m2 m3 m4 ci bi x a1 c1 a2 c2 a3 c3 y a7 c7 b am cm u1 u2 u3 := by
 have hk := hK
 obtain ⟨_, _, _, n3, _, _, hv, hy, _⟩ := hk
 obtain ⟨_, _, _, _, _, hc⟩ := n3.at hy
 obtain ⟨a8, c8, q0, q1, q2, q3, q4, q5, q6, q7, q8, q9, q10, q11, z0, z1, z6, z9, z10, z11, z7⟩ := hc
 have hr := ((valid_more hv).2.2.2 ci y hy).1
 have hh := ((valid_apart hv).1 ci y hy).1
 intro r hr'
 unfold comeR stayR at hr'
 simp only [List.mem_cons, List.not_mem_nil, or_false] at hr'
 rcases hr' with rfl | rfl | rfl | rfl | rfl | rfl | rfl | rfl
 ·exact says_of W lo p m1 m2 m3 m4 ci bi x a1 c1 a2 c2 a3 c3 y a7 c7 b am cm u1 u2 u3 (closed_any p ci bi y a7 c7 b am cm u1 u2 u3)
 ·exact says_of W lo p m1 m2 m3 m4 ci bi x a1 c1 a2 c2 a3 c3 y a7 c7 b am cm u1 u2 u3 (elsewhere_any p ci bi y a7 c7 b am cm u1 u2 u3)
 ·exact marked_any W lo p m1 m2 m3 m4 ci bi x a1 c1 a2 c2 a3 c3 y a7 c7 b am cm u1 u2 u3 hK z6
 ·exact together_any W lo p m1 m2 m3 m4 ci bi x a1 c1 a2 c2 a3 c3 y a7 c7 b am cm u1 u2 u3 hK
 ·exact far_any W lo p m1 m2 m3 m4 ci bi x a1 c1 a2 c2 a3 c3 y a7 c7 b am cm u1 u2 u3 hK
 ·exact says_of W lo p m1 m2 m3 m4 ci bi x a1 c1 a2 c2 a3 c3 y a7 c7 b am cm u1 u2 u3 (full_any p ci bi y a7 c7 b am cm u1 u2 u3)
 ·exact says_of W lo p m1 m2 m3 m4 ci bi x a1 c1 a2 c2 a3 c3 y a7 c7 b am cm u1 u2 u3 (fun w => roomless_any p ci bi y a7 c7 b am cm u1 u2 u3 w h1.1 h1.2 hr.1 hr.2)
 ·exact says_of W lo p m1 m2 m3 m4 ci bi x a1 c1 a2 c2 a3 c3 y a7 c7 b am cm u1 u2 u3 (fun w => holdless_any p ci bi y a7 c7 b am cm u1 u2 u3 w h2.1 h2.2 hh.1 hh.2)
theorem come_enters (x : Flt) (ci : Nat) (y : Cpy) (b : Brt) (u1 u2 u3 : Int) : ∀ r, r ∈ comeR x ci y b u1 u2 u3 → ∀ args w, (callFunc r.2.1 args).run Tryz.prog w = .ok (.enter r.2.1 args) w := by
 intro r hr'
 unfold comeR stayR at hr'
 simp only [List.mem_cons, List.not_mem_nil, or_false] at hr'
 rcases hr' with rfl | rfl | rfl | rfl | rfl | rfl | rfl | rfl
 ·exact enters_of Tryz.func101 (by kernel_rfl) rfl
 ·exact enters_of Tryz.func120 (by kernel_rfl) rfl
 ·exact enters_of Tryz.func121 (by kernel_rfl) rfl
 ·exact enters_of Tryz.func122 (by kernel_rfl) rfl
 ·exact enters_of Tryz.func123 (by kernel_rfl) rfl
 ·exact enters_of Tryz.func124 (by kernel_rfl) rfl
 ·exact enters_of Tryz.func125 (by kernel_rfl) rfl
 ·exact enters_of Tryz.func126 (by kernel_rfl) rfl
theorem rsnIn_come {rb : Nat} {w : World} (x : Flt) (ci : Nat) (y : Cpy) (b : Brt) (u1 u2 u3 : Int) (h : w.rangeAt rb 0 comeV) : RsnIn rb (comeR x ci y b u1 u2 u3) w := by
 intro k r hk
 have hk8 : k < 8 := (List.getElem?_eq_some_iff.1 hk).1
 have hc : k = 0 ∨ k = 1 ∨ k = 2 ∨ k = 3 ∨ k = 4 ∨ k = 5 ∨ k = 6 ∨ k = 7 := by omega
 rcases hc with rfl | rfl | rfl | rfl | rfl | rfl | rfl | rfl
 ·cases hk
  exact ⟨by simpa using h 0 _ rfl, by simpa using h 1 _ rfl⟩
 ·cases hk
  exact ⟨by simpa using h 2 _ rfl, by simpa using h 3 _ rfl⟩
 ·cases hk
  exact ⟨by simpa using h 4 _ rfl, by simpa using h 5 _ rfl⟩
 ·cases hk
  exact ⟨by simpa using h 6 _ rfl, by simpa using h 7 _ rfl⟩
 ·cases hk
  exact ⟨by simpa using h 8 _ rfl, by simpa using h 9 _ rfl⟩
 ·cases hk
  exact ⟨by simpa using h 10 _ rfl, by simpa using h 11 _ rfl⟩
 ·cases hk
  exact ⟨by simpa using h 12 _ rfl, by simpa using h 13 _ rfl⟩
 ·cases hk
  exact ⟨by simpa using h 14 _ rfl, by simpa using h 15 _ rfl⟩
set_option maxHeartbeats 2000000 in
set_option maxRecDepth 100000 in
theorem liked_any (p m4 ci bi n : Nat) (y : Cpy) (a7 : Option Addr) (c7 : Nat) (b : Brt) (am : Option Addr) (cm : Nat) (u1 u2 u3 : Int) (bs : List Brt) (lo : Nat) (W w : World) (hW : Below W.heap.size W w) (p7 : w.cell? ⟨p, 7, none⟩ = some (.map (some m4))) (hp : p ≠ m4) (hM : MemoAt m4 n bs w) (hm4 : W.heap.size ≤ m4) (hb : bs[bi]? = some b) (hbi : bi ≤ 1048576) (hn : n ≤ 1000) (nm : SliceC StrC 1 lo W am b.marks) (n7 : SliceC LikC 2 lo W a7 y.likes) (hml : b.marks.length ≤ 1000) (hz : b.zone.size ≤ 1000) (hll : y.likes.length ≤ 5) (hlw : ∀ (k : Nat) (l : Lik), y.likes[k]? = some l → -9 ≤ l.weight ∧ l.weight ≤ 9) :
  Calls Tryz.prog 102 #[.slice a7 y.likes.length c7, .func (.func 103) #[.agg (spotA p ci bi y a7 c7 b am cm u1 u2 u3)] #[]] w fun e w' => e = .returned (.int .i64 (likeTo (fun t => asksI t b.marks b.zone) y.likes y.likes.length)) ∧ MemoAt m4 (n + 5) bs w' ∧ But m4 w.heap.size w w' := by
 obtain ⟨n0, D, hn0, o4, hm⟩ := hM
 have O4 := iH o4
 have HM := iH hm
 have HB := iH hb
 have NM := iH nm
 have N7 := iH n7
 have HLW := iH hlw
 have HW := iH hW
 have hpl : p < w.heap.size := block_lt_of_cell p7
 have hm4l : m4 < w.heap.size := o4.lt
 have P7 := iH p7
 clear o4 hm hb nm n7 hlw p7 hW
 obtain ⟨SP, hSP⟩ : ∃ SP, SP = spotA p ci bi y a7 c7 b am cm u1 u2 u3 := ⟨_, rfl⟩
 have HSP := iH hSP
 rw [← hSP]
 clear hSP
 go_enter Tryz.func102, Tryz.ntmps102
 go_wp2_with fail
 go_loopw [5, 10] (fun s i wr => ∃ (k : Nat) (L : Int) (n' : Nat) (D' : DataW Unit), k ≤ y.likes.length ∧ i = .int .i64 k ∧ s = .int .i64 L ∧ -100 ≤ L ∧ L ≤ 100 ∧ n' ≤ n + k ∧ w.heap.size ≤ wr.heap.size ∧ Hid (L = likeTo (fun t => asksI t b.marks b.zone) y.likes k) ∧ Hid (wr.ownsMap Tryz.prog 185 ansElem m4 n' D') ∧ Hid (MemoOk bs D') ∧ Hid (But m4 w.heap.size w wr)) (fun _ i _ => y.likes.length - (intOf i).toNat)
 case atStart => exact ⟨0, 0, n0, D, Nat.zero_le _, rfl, rfl, by omega, by omega, by omega, Nat.le_refl _, rfl, O4, HM, But.refl _ _ _⟩
 case round =>
  obtain ⟨k, L, n', D', hk, rfl, rfl, hL0, hL1, hn', hs1, hL, hO, hM, hB⟩ := hrel
  by_cases hlt : k < y.likes.length
  ·obtain ⟨l, hl⟩ : ∃ l, y.likes[k]? = some l := ⟨y.likes[k], List.getElem?_eq_getElem hlt⟩
   have hWr : Below W.heap.size W wr := HW.out.trans (hB.out.below HW.out.size hm4)
   obtain ⟨b7, o7, rfl, _, _, hc⟩ := (N7.out.below LikC.holds hWr nL).at hl
   obtain ⟨q0, q1, z0⟩ := hc
   simp only [Nat.add_zero] at q0
   have HLL := iH hl
   have HZ0 := iH z0
   have hwt := HLW.out k l hl
   have HWR := iH hWr
   clear hl z0 hWr
   go_upto_region 5 with fail
   have hbx : Below wr.heap.size wr (wr.alloc (Obj.cells #[.string l.select, .int .i64 l.weight] 108)) := (Below.refl _ wr).alloc nL _
   have g0 : (wr.alloc (Obj.cells #[.string l.select, .int .i64 l.weight] 108)).cell? ⟨wr.heap.size, 0, none⟩ = some (.string l.select) := by simp
   have g1 : (wr.alloc (Obj.cells #[.string l.select, .int .i64 l.weight] 108)).cell? ⟨wr.heap.size, 1, none⟩ = some (.int .i64 l.weight) := by simp
   have hs4 : wr.heap.size < (wr.alloc (Obj.cells #[.string l.select, .int .i64 l.weight] 108)).heap.size := by simp
   generalize wr.alloc (Obj.cells #[.string l.select, .int .i64 l.weight] 108) = w4 at *
   have HO4 := iH (ownsMap_below hO.out hbx hO.out.lt)
   have HB4 : Hid (But m4 w.heap.size w w4) := hB.out.trans (But.of_below (hbx.mono hB.out.size))
   have HW4 : Hid (Below W.heap.size W w4) := HWR.out.trans (hbx.mono HWR.out.size)
   have P7' : w4.cell? ⟨p, 7, none⟩ = some (.map (some m4)) := (HB4.out.cell (a := ⟨p, 7, none⟩) hpl hp).trans P7.out
   clear hbx
   go_wp2_with fail
   rw [HSP.out]
   refine (asf_any p m4 ci bi n' y (some ⟨b7, o7, none⟩) c7 b am cm u1 u2 u3 bs D' l.select lo _ P7' HO4.out hM.out HB.out hbi (by omega) (NM.out.below StrC.holds HW4.out nL) hml hz HZ0.out).mono ?_
   rintro e w5 ⟨rfl, D5, ho5, hm5, hb5⟩
   rw [← HSP.out]
   have HO5 := iH ho5
   have HM5 := iH hm5
   have HB5 : Hid (But m4 w.heap.size w w5) := HB4.out.trans (hb5.mono HB4.out.size)
   have hs5 : w.heap.size ≤ w5.heap.size := by have := hb5.size; omega
   have h4m : m4 < w.heap.size := hm4l
   have r1 : w5.cell? ⟨wr.heap.size, 1, none⟩ = some (.int .i64 l.weight) := (hb5.cell (a := ⟨wr.heap.size, 1, none⟩) hs4 (by show wr.heap.size ≠ m4; omega)).trans g1
   clear ho5 hm5 hb5 g0 g1
   have hbd := likeTo_bd (f := fun t => asksI t b.marks b.zone) HLW.out k
   cases ha : asksI l.select b.marks b.zone with
   | true =>
    have HE : Hid (likeTo (fun t => asksI t b.marks b.zone) y.likes (k + 1) = likeTo (fun t => asksI t b.marks b.zone) y.likes k + l.weight) := likeTo_yes HLL.out ha
    have hLe := hL.out
    have hx0 : -100 ≤ L + l.weight := by omega
    have hx1 : L + l.weight ≤ 100 := by omega
    clear hbd hLe
    go_wp2_with fail
    go_roundw
    case rel => exact ⟨k + 1, L + l.weight, n' + 1, D5, by omega, by go_num, rfl, hx0, hx1, by omega, hs5, by show _ = _; rw [HE.out, hL.out], HO5, HM5, HB5⟩
    case measure => simp [intOf]; omega
   | false =>
    have HE : Hid (likeTo (fun t => asksI t b.marks b.zone) y.likes (k + 1) = likeTo (fun t => asksI t b.marks b.zone) y.likes k) := likeTo_no HLL.out ha
    clear hbd
    go_wp2_with fail
    go_roundw
    case rel => exact ⟨k + 1, L, n' + 1, D5, by omega, by go_num, rfl, hL0, hL1, by omega, hs5, by show _ = _; rw [HE.out, hL.out], HO5, HM5, HB5⟩
    case measure => simp [intOf]; omega
  ·have hke : k = y.likes.length := by omega
   subst hke
   go_wp2_with fail
   go_ret
   exact ⟨ret_int hL.out, ⟨n', D', by omega, hO.out, hM.out⟩, hB.out⟩
end Go.Proofs.YtebfdgfhadpieaaGreat
