/-
  Walk: a list of nodes becomes a part.
-/
import Derived.Test.YthjicahpfhjfdaaGreatDoorJ16
import Derived.Test.YthjicahpfhjfdaaGreatDoorPrF
import Derived.Test.YthjicahpfhjfdaaGreatDoorJ14
import Derived.Deep.DeepCutAuto
namespace Go.Proofs.YthjicahpfhjfdaaGreatDoor
open Go.RowKit

theorem info_part : (Tryz.prog.info? 44).map (fun i => (i.zero, i.size, i.bytes)) = some (some .nilIface, 1, 16) := by kernel_rfl

theorem news_oneP (w : World) (x : Value) (T : TypeId) : ∀ j u, [x][j]? = some u → (w.alloc (.cells #[x] T)).cell? ((⟨w.heap.size, 0, none⟩ : Addr).add j) = some u := by
  intro j u hj
  match j, hj with
  | 0, hj => simp at hj; subst hj; simp [Addr.add]

theorem one_iface (ty : TypeId) (v : Value) : ∀ u ∈ [Value.iface ty v], u.oneCell' = true := by
  intro u hu
  simp at hu
  subst hu
  rfl

set_option maxHeartbeats 400000 in
theorem treeLone_any (n : P.Nd) (g cn : Nat) (w : World) (h : Nodes0 w g [n]) (hl : P.lone [n] = true) :
    Calls Tryz.prog 17 #[.slice (some ⟨g, 0, none⟩) 1 cn] w fun e w' => e = .returned (growV (P.treeI [n])) ∧ Below w.heap.size w w' := by
  obtain ⟨r0, r1, r2, r3⟩ := h.2 0 n rfl
  simp only [Nat.zero_mul, Nat.zero_add] at r0 r1 r2 r3
  have e : growV (P.treeI [n]) = .tuple #[.iface 89 (.agg #[]), .bool true] := by unfold P.treeI; rw [if_pos hl]; rfl
  rw [e]
  obtain ⟨m, hm, e0, e1, e2, e3⟩ := P.lone_facts hl
  simp only [List.cons.injEq, and_true] at hm
  subst hm
  have b1 := nil_of_size e2
  have b2 := nil_of_size e3
  clear h hl e e2 e3
  rw [e0] at r0
  rw [e1] at r3
  go_enter Tryz.func17, Tryz.ntmps17
  go_wp2_with fail
  go_ret2
  exact ⟨rfl, Below.refl _ _⟩

set_option maxHeartbeats 8000000 in
set_option maxRecDepth 100000 in
theorem treeLoop_any (ns : List P.Nd) (g cn : Nat) (w : World) (h : Nodes0 w g ns) (hl : P.lone ns = false) (hsm : Small ns) :
    Calls Tryz.prog 17 #[.slice (some ⟨g, 0, none⟩) ns.length cn] w fun e w' => e = .returned (growV (P.treeI ns)) ∧ Below w.heap.size w w' := by
  have HN : Hid (Nodes0 w g ns) := h
  have HL : Hid (P.lone ns = false) := hl
  have hlen := hsm.1
  have HS : Hid (Small ns) := hsm
  clear h hl hsm
  obtain ⟨i0, hi, hz0, hz1, hz2⟩ := info_parts info_part
  go_enter Tryz.func17, Tryz.ntmps17
  go_upto_region 1 with fail
  go_cut [19] (fun c wx => c = .bool false ∧ wx = w)
  case first =>
    by_cases h1 : ns.length = 1
    · obtain ⟨n, hn⟩ : ∃ n, ns = [n] := by
        match ns, h1 with
        | [n], _ => exact ⟨n, rfl⟩
      obtain ⟨r0, r1, r2, r3⟩ := HN.out.2 0 n (by rw [hn]; rfl)
      simp only [Nat.zero_mul, Nat.zero_add] at r0 r1 r2 r3
      have HX : Hid (ns = [n]) := hn
      have h2 : ((ns.length : Int) == 1) = true := by rw [beq_iff_eq]; omega
      have h3 : (0 : Int) < (ns.length : Int) := by omega
      clear hn h1
      go_wp2_with fail
      all_goals first
        | (go_meet
           exact ⟨rfl, rfl⟩)
        | (exfalso
           have q0 : n.kind = 0 := by assumption
           have q1 : n.name.toList = [] := by assumption
           have q2 : n.value.toList = [] := by assumption
           have q3 : n.kids = 0 := by assumption
           have : P.lone ns = true := by rw [HX.out]; simp [P.lone, q0, q3, size_of_nil q1, size_of_nil q2]
           rw [HL.out] at this
           cases this)
    · have h2 : ((ns.length : Int) == 1) = false := by rw [beq_eq_false_iff_ne]; omega
      go_wp2_with fail
      go_meet
      exact ⟨rfl, rfl⟩
  case rest =>
    obtain ⟨rfl, rfl⟩ := hcut
    go_wp2_with fail
    go_loopw [4, 24] (fun v i wr => ∃ (k m : Nat) (ts : List P.Tr), k ≤ ns.length ∧ i = .int .i64 k ∧ m ≤ k ∧ Hid (P.runI (ns.take k) [] = some ts ∧ ts.length = m ∧ ∀ t ∈ ts, P.wf t ∧ P.tall t ≤ 20) ∧ wr.ownsRow wc.heap.size 44 1 v m (ts.map val) ∧ Below wc.heap.size wc wr) (fun _ i _ => ns.length - (intOf i).toNat)
    case atStart => exact ⟨0, 0, [], Nat.zero_le _, rfl, Nat.le_refl _, ⟨by rw [List.take_zero]; rfl, rfl, fun t ht => by cases ht⟩, World.ownsRow_nil _ _ _ _, Below.refl _ _⟩
    case round =>
      obtain ⟨k, m, ts, hk, rfl, hmk, hrun, hown, hbel⟩ := hrel
      by_cases hlt : k < ns.length
      · obtain ⟨n, hn⟩ : ∃ n, ns[k]? = some n := ⟨ns[k], List.getElem?_eq_getElem hlt⟩
        obtain ⟨r0, r1, r2, r3⟩ := (HN.out.grown hbel).2 k n hn
        have HK : Hid (ns[k]? = some n) := hn
        have HO : Hid (wr.ownsRow wc.heap.size 44 1 u4 m (ts.map val)) := hown
        clear hn
        rcases hown.2 with ⟨hv, hm0⟩ | ⟨gp, cap, cur, hv, hgp, hblk, hcap, hcap2, hcur, htake⟩
        · -- no part stands there yet
          subst hv hm0
          obtain rfl : ts = [] := List.eq_nil_of_length_eq_zero hrun.out.2.1
          clear hown
          have hsz := HS.out.2 n (List.mem_of_getElem? HK.out)
          obtain ⟨hs1, hs2⟩ := hsz
          rcases (show n.kids < 0 ∨ 0 < n.kids ∨ n.kids = 0 by omega) with hneg | hpos | hzero
          · have HE : Hid (growV (P.treeI ns) = .tuple #[.nilIface, .bool false]) := by
              show _ = _
              rw [P.treeI_stop HL.out (P.runI_stop hrun.out.1 HK.out (by unfold P.stepI; rw [if_pos (.inl hneg)]))]; rfl
            go_wp2_with fail
            go_ret2
            exact ⟨congrArg Ending.returned HE.out.symm, hbel.alloc hbel.size _⟩
          · have HE : Hid (growV (P.treeI ns) = .tuple #[.nilIface, .bool false]) := by
              show _ = _
              rw [P.treeI_stop HL.out (P.runI_stop hrun.out.1 HK.out (by unfold P.stepI; rw [if_pos (.inr (by simpa using hpos))]))]; rfl
            go_wp2_with fail
            go_ret2
            exact ⟨congrArg Ending.returned HE.out.symm, hbel.alloc hbel.size _⟩
          · have hst := P.stepI_in (n := n) (ts := []) 0 0 hzero rfl
            have cc := fun W => grow_any n [] none 0 W (by unfold maxLen; omega) (by unfold maxLen; omega) (by rw [hzero]; rfl) (.inl rfl) (fun t ht => by cases ht)
            rw [hzero] at r3 cc
            have C : Hid (∀ W d os, Calls Tryz.prog 32 #[.agg #[.int .i64 n.kind, .string n.name, .string n.value, .int .i64 0], .slice none 0 0] (Sort.grow (redrawn W d) os) fun e w'' => e = .returned (growV (P.grow n [])) ∧ ∃ p : Regrown, w'' = Sort.grow (redrawn W p.d) p.os) := fun W d os => Calls.regrown_of (cc _)
            have l0 := cell_regrown (w := wr.alloc (.cells #[.int .i64 n.kind, .string n.name, .string n.value, .int .i64 0] 36)) (a := ⟨wr.heap.size, 0, none⟩) (v := .int .i64 n.kind) (by simp)
            have l1 := cell_regrown (w := wr.alloc (.cells #[.int .i64 n.kind, .string n.name, .string n.value, .int .i64 0] 36)) (a := ⟨wr.heap.size, 1, none⟩) (v := .string n.name) (by simp)
            have l2 := cell_regrown (w := wr.alloc (.cells #[.int .i64 n.kind, .string n.name, .string n.value, .int .i64 0] 36)) (a := ⟨wr.heap.size, 2, none⟩) (v := .string n.value) (by simp)
            have l3 := cell_regrown (w := wr.alloc (.cells #[.int .i64 n.kind, .string n.name, .string n.value, .int .i64 0] 36)) (a := ⟨wr.heap.size, 3, none⟩) (v := .int .i64 0) (by simp)
            clear cc hzero
            simp only [List.drop_nil, List.take_nil, List.nil_append] at hst
            cases hg : P.grow n [] with
            | none =>
              rw [hg] at C hst
              have HE : Hid (growV (P.treeI ns) = .tuple #[.nilIface, .bool false]) := by
                show _ = _
                rw [P.treeI_stop HL.out (P.runI_stop hrun.out.1 HK.out hst)]; rfl
              have C' : Hid (∀ W d os, Calls Tryz.prog 32 #[.agg #[.int .i64 n.kind, .string n.name, .string n.value, .int .i64 0], .slice none 0 0] (Sort.grow (redrawn W d) os) fun e w'' => e = .returned (.tuple #[.nilIface, .bool false]) ∧ ∃ p : Regrown, w'' = Sort.grow (redrawn W p.d) p.os) := C
              clear C hst hg
              go_wp2_with fail
              refine wp_region_quiet_below (by kernel_rfl) (by kernel_rfl) ?_
              repeat (quiet_step (first | exact C'.out _ _ _))
              refine wpQuiet_nil ?_
              intro w5 hw'
              obtain ⟨⟨dq, osq⟩, hw''⟩ := hw'
              have hB := (hbel.alloc hbel.size (.cells #[.int .i64 n.kind, .string n.name, .string n.value, .int .i64 0] 36)).trans ((below_regrown _ dq osq).mono (by have := hbel.size; simp; omega))
              simp only [] at hw''
              rw [← hw''] at hB
              clear hw'' C' l0 l1 l2 l3
              go_wp2_with fail
              go_ret2
              exact ⟨congrArg Ending.returned HE.out.symm, hB⟩
            | some t =>
              have hwf : P.wf t := (P.grow_good hg (fun u hu => by cases hu)).1
              obtain ⟨ty, vt, hvt⟩ := val_iface hwf
              rw [hg] at C hst
              have C' : Hid (∀ W d os, Calls Tryz.prog 32 #[.agg #[.int .i64 n.kind, .string n.name, .string n.value, .int .i64 0], .slice none 0 0] (Sort.grow (redrawn W d) os) fun e w'' => e = .returned (.tuple #[val t, .bool true]) ∧ ∃ p : Regrown, w'' = Sort.grow (redrawn W p.d) p.os) := C
              rw [hvt] at C'
              have HV : Hid (val t = .iface ty vt) := hvt
              have HST : Hid _ := hst
              clear C hst hg hvt
              go_wp2_with fail
              refine wp_region_quiet_below (by kernel_rfl) (by kernel_rfl) ?_
              repeat (quiet_step (first | exact C'.out _ _ _))
              refine wpQuiet_nil ?_
              intro w5 hw'
              obtain ⟨⟨dq, osq⟩, hw''⟩ := hw'
              have hBr : Below wr.heap.size wr w5 := by
                have h := ((Below.refl wr.heap.size wr).alloc (Nat.le_refl _) (.cells #[.int .i64 n.kind, .string n.name, .string n.value, .int .i64 0] 36)).trans ((below_regrown _ dq osq).mono (by simp))
                simp only [] at hw''
                rw [← hw''] at h
                exact h
              clear hw'' C' l0 l1 l2 l3 r0 r1 r2 r3
              by_cases ht20 : 20 < P.tall t
              · have HE : Hid (growV (P.treeI ns) = .tuple #[.nilIface, .bool false]) := by
                  show _ = _
                  rw [P.treeI_stop HL.out (P.runI_stop hrun.out.1 HK.out (HST.out.trans (by simp [ht20])))]; rfl
                go_wp2_with (refine wpList_meth rfl (.tmp 54) _ #[] #[] rfl _ rfl #[] (map_none _) _ (tall_meth ⟨fun _ => by kernel_rfl, fun _ _ => by kernel_rfl, fun _ _ _ => by kernel_rfl, fun _ _ _ => by kernel_rfl, fun _ _ _ _ => by kernel_rfl, fun _ _ _ _ => by kernel_rfl⟩ hwf HV _) ?_; rintro u w6 ⟨rfl, hb6⟩)
                go_ret2
                exact ⟨congrArg Ending.returned HE.out.symm, (hbel.trans (hBr.mono hbel.size)).trans (hb6.mono (Nat.le_trans hbel.size hBr.size))⟩
              · have HR : Hid (P.runI (ns.take (k + 1)) [] = some [t]) := by
                  show _ = _
                  rw [P.runI_next hrun.out.1 HK.out]; exact HST.out.trans (by simp [ht20])
                go_wp2_with (first
                  | (refine wpList_meth rfl (.tmp 54) _ #[] #[] rfl _ rfl #[] (map_none _) _ (tall_meth ⟨fun _ => by kernel_rfl, fun _ _ => by kernel_rfl, fun _ _ _ => by kernel_rfl, fun _ _ _ => by kernel_rfl, fun _ _ _ _ => by kernel_rfl, fun _ _ _ _ => by kernel_rfl⟩ hwf HV _) ?_; rintro u w6 ⟨rfl, hb6⟩; have hO6 := ownsRow_belowV (ownsRow_belowV HO.out hBr) hb6)
                  | (at_builtin; refine wpList_append_own _ rfl (.tmp 60) (.tmp 62) 90 rfl wc.heap.size 44 i0 .nilIface 1 16 Tryz.underlying90 hi hz0 hz1 hz2 rfl (by decide) _ _ _ rfl (hO6.alloc _) ⟨w6.heap.size, 0, none⟩ 1 1 [.iface ty vt] rfl rfl (news_oneP _ _ _) (one_iface _ _) (by unfold maxLen; omega) (by omega) (by have := hbel.size; have := hBr.size; have := hb6.size; simp; omega) ?_; intro v' w7 hown7 hgrow7 _))
                have hB7 : Below wc.heap.size wc w7 := ((hbel.trans (hBr.mono hbel.size)).trans (hb6.mono (Nat.le_trans hbel.size hBr.size))).alloc (by have := hbel.size; have := hBr.size; have := hb6.size; omega) _ |>.grown hgrow7 (by have := hbel.size; have := hBr.size; have := hb6.size; simp; omega) (fun j hj => by cases hj)
                go_roundw
                case rel =>
                  refine ⟨k + 1, 1, [t], by omega, by go_num, by omega, ⟨HR.out, rfl, ?_⟩, ?_, hB7⟩
                  · intro u hu
                    simp at hu
                    subst hu
                    exact ⟨hwf, by omega⟩
                  · have e : [t].map val = List.map val [] ++ [.iface ty vt] := by simp [HV.out]
                    rw [e]
                    exact hown7
                case measure => simp [intOf]; omega
        · -- some parts stand there
          subst hv
          clear hgp hblk hcap2 hcur htake hown
          have hsz := HS.out.2 n (List.mem_of_getElem? HK.out)
          obtain ⟨hs1, hs2⟩ := hsz
          have hml := hrun.out.2.1
          rcases (show n.kids < 0 ∨ (m : Int) < n.kids ∨ (0 ≤ n.kids ∧ n.kids ≤ m) by omega) with hneg | hpos | ⟨hin1, hin2⟩
          · have HE : Hid (growV (P.treeI ns) = .tuple #[.nilIface, .bool false]) := by
              show _ = _
              rw [P.treeI_stop HL.out (P.runI_stop hrun.out.1 HK.out (by unfold P.stepI; rw [if_pos (.inl hneg)]))]; rfl
            clear hml
            go_wp2_with fail
            go_ret2
            exact ⟨congrArg Ending.returned HE.out.symm, hbel.alloc hbel.size _⟩
          · have HE : Hid (growV (P.treeI ns) = .tuple #[.nilIface, .bool false]) := by
              show _ = _
              rw [P.treeI_stop HL.out (P.runI_stop hrun.out.1 HK.out (by unfold P.stepI; rw [if_pos (.inr (by rw [hml]; exact hpos))]))]; rfl
            clear hml
            go_wp2_with fail
            go_ret2
            exact ⟨congrArg Ending.returned HE.out.symm, hbel.alloc hbel.size _⟩
          · obtain ⟨c, hc⟩ := Int.eq_ofNat_of_zero_le hin1
            obtain ⟨r, rfl⟩ : ∃ r, m = r + c := ⟨m - c, by omega⟩
            have HST : Hid (P.stepI n ts = _) := P.stepI_in (n := n) (ts := ts) r c hc hml
            clear hin1 hin2
            rw [hc] at r3
            have HC : Hid (n.kids = (c : Int)) := hc
            clear hc hml
            have l0 := cell_regrown (w := wr.alloc (.cells #[.int .i64 n.kind, .string n.name, .string n.value, .int .i64 c] 36)) (a := ⟨wr.heap.size, 0, none⟩) (v := .int .i64 n.kind) (by simp)
            have l1 := cell_regrown (w := wr.alloc (.cells #[.int .i64 n.kind, .string n.name, .string n.value, .int .i64 c] 36)) (a := ⟨wr.heap.size, 1, none⟩) (v := .string n.name) (by simp)
            have l2 := cell_regrown (w := wr.alloc (.cells #[.int .i64 n.kind, .string n.name, .string n.value, .int .i64 c] 36)) (a := ⟨wr.heap.size, 2, none⟩) (v := .string n.value) (by simp)
            have l3 := cell_regrown (w := wr.alloc (.cells #[.int .i64 n.kind, .string n.name, .string n.value, .int .i64 c] 36)) (a := ⟨wr.heap.size, 3, none⟩) (v := .int .i64 c) (by simp)
            have j0 : (0 : Int) ≤ (r : Int) := by omega
            have j1 : (r : Int) ≤ (r : Int) + (c : Int) := by omega
            have j2 : (r : Int) + (c : Int) ≤ (cap : Int) := by omega
            have hkl : (ts.drop r).length = c := by rw [List.length_drop, hrun.out.2.1]; omega
            have hkw : ∀ t ∈ ts.drop r, P.wf t ∧ P.tall t ≤ 20 := fun t ht => hrun.out.2.2 t (List.mem_of_mem_drop ht)
            have C : Hid (∀ d os ka cp, (c = 0 ∨ ka = some ⟨gp, r, none⟩) → Calls Tryz.prog 32 #[.agg #[.int .i64 n.kind, .string n.name, .string n.value, .int .i64 c], .slice ka c cp] (Sort.grow (redrawn (wr.alloc (.cells #[.int .i64 n.kind, .string n.name, .string n.value, .int .i64 c] 36)) d) os)
                fun e w'' => e = .returned (growV (P.grow n (ts.drop r))) ∧ ∃ p : Regrown, w'' = Sort.grow (redrawn (wr.alloc (.cells #[.int .i64 n.kind, .string n.name, .string n.value, .int .i64 c] 36)) p.d) p.os) := by
              intro d os ka cp hka
              refine Calls.regrown_of ?_
              have hB1 := (Below.refl wr.heap.size wr).alloc (Nat.le_refl _) (.cells #[.int .i64 n.kind, .string n.name, .string n.value, .int .i64 c] 36)
              have hB2 := hB1.trans ((below_regrown _ d os).mono (by simp))
              have key := grow_any n (ts.drop r) ka cp (Sort.grow (redrawn (wr.alloc (.cells #[.int .i64 n.kind, .string n.name, .string n.value, .int .i64 c] 36)) d) os) (by unfold maxLen; omega) (by unfold maxLen; omega) (by rw [hkl]; exact HC.out.symm) (by
                rcases hka with hc0 | hka
                · exact .inl (List.eq_nil_of_length_eq_zero (by omega))
                · refine .inr ⟨gp, r, hka, ?_⟩
                  intro j t hj
                  rw [List.getElem?_drop] at hj
                  have hjl := P.getElem?_lt hj
                  have hO2 := ownsRow_belowV HO.out hB2
                  rw [hO2.cellAt (r + j) (by have := hrun.out.2.1; omega), List.getElem?_map, hj]; rfl) hkw
              rw [hkl, HC.out] at key
              exact key
            clear hkl hkw
            rcases (show ¬ c = 0 ∨ (c = 0 ∧ r = cap) ∨ (c = 0 ∧ ¬ cap = r) by omega) with c0 | ⟨c0, hcr⟩ | ⟨c0, hcr⟩
            all_goals first
              | (have HC0 : Hid (c = 0) := c0
                 clear c0
                 try (subst hcr; clear hcap j2))
              | (have HC0 : Hid True := trivial
                 have hcr : ¬ cap = r := by omega)
            all_goals
              cases hg : P.grow n (ts.drop r) with
              | none =>
                rw [hg] at C
                have C' : Hid (∀ d os ka cp, (c = 0 ∨ ka = some ⟨gp, r, none⟩) → Calls Tryz.prog 32 #[.agg #[.int .i64 n.kind, .string n.name, .string n.value, .int .i64 c], .slice ka c cp] (Sort.grow (redrawn (wr.alloc (.cells #[.int .i64 n.kind, .string n.name, .string n.value, .int .i64 c] 36)) d) os)
                  fun e w'' => e = .returned (.tuple #[.nilIface, .bool false]) ∧ ∃ p : Regrown, w'' = Sort.grow (redrawn (wr.alloc (.cells #[.int .i64 n.kind, .string n.name, .string n.value, .int .i64 c] 36)) p.d) p.os) := C
                have HE : Hid (growV (P.treeI ns) = .tuple #[.nilIface, .bool false]) := by
                  show _ = _
                  rw [P.treeI_stop HL.out (P.runI_stop hrun.out.1 HK.out (HST.out.trans (by rw [hg])))]; rfl
                clear hg C
                go_wp2_with fail
                refine wp_region_quiet_below (by kernel_rfl) (by kernel_rfl) ?_
                repeat (quiet_step ((refine C'.out _ _ _ _ ?_; first | exact .inr rfl | exact .inl HC0.out)))
                refine wpQuiet_nil ?_
                intro w5 hw'
                obtain ⟨⟨dq, osq⟩, hw''⟩ := hw'
                have hB := (hbel.alloc hbel.size (.cells #[.int .i64 n.kind, .string n.name, .string n.value, .int .i64 c] 36)).trans ((below_regrown _ dq osq).mono (by have := hbel.size; simp; omega))
                simp only [] at hw''
                rw [← hw''] at hB
                clear hw'' C' l0 l1 l2 l3
                go_wp2_with fail
                go_ret2
                exact ⟨congrArg Ending.returned HE.out.symm, hB⟩
              | some t =>
                have hfine : ∀ u ∈ ts, P.wf u := fun u hu => (hrun.out.2.2 u hu).1
                have hwf : P.wf t := P.grow_wf hg (fun u hu => hfine u (List.mem_of_mem_drop hu))
                obtain ⟨ty, vt, hvt⟩ := val_iface hwf
                rw [hg] at C
                have C' : Hid (∀ d os ka cp, (c = 0 ∨ ka = some ⟨gp, r, none⟩) → Calls Tryz.prog 32 #[.agg #[.int .i64 n.kind, .string n.name, .string n.value, .int .i64 c], .slice ka c cp] (Sort.grow (redrawn (wr.alloc (.cells #[.int .i64 n.kind, .string n.name, .string n.value, .int .i64 c] 36)) d) os)
                  fun e w'' => e = .returned (.tuple #[val t, .bool true]) ∧ ∃ p : Regrown, w'' = Sort.grow (redrawn (wr.alloc (.cells #[.int .i64 n.kind, .string n.name, .string n.value, .int .i64 c] 36)) p.d) p.os) := C
                rw [hvt] at C'
                have HV : Hid (val t = .iface ty vt) := hvt
                have HG : Hid (P.grow n (ts.drop r) = some t) := hg
                clear C hg hvt hfine
                go_wp2_with fail
                refine wp_region_quiet_below (by kernel_rfl) (by kernel_rfl) ?_
                repeat (quiet_step ((refine C'.out _ _ _ _ ?_; first | exact .inr rfl | exact .inl HC0.out)))
                refine wpQuiet_nil ?_
                intro w5 hw'
                obtain ⟨⟨dq, osq⟩, hw''⟩ := hw'
                have hBr : Below wr.heap.size wr w5 := by
                  have h := ((Below.refl wr.heap.size wr).alloc (Nat.le_refl _) (.cells #[.int .i64 n.kind, .string n.name, .string n.value, .int .i64 c] 36)).trans ((below_regrown _ dq osq).mono (by simp))
                  simp only [] at hw''
                  rw [← hw''] at h
                  exact h
                clear hw'' C' l0 l1 l2 l3 r0 r1 r2 r3
                by_cases ht20 : 20 < P.tall t
                · have HE : Hid (growV (P.treeI ns) = .tuple #[.nilIface, .bool false]) := by
                    show _ = _
                    rw [P.treeI_stop HL.out (P.runI_stop hrun.out.1 HK.out (HST.out.trans (by rw [HG.out]; simp [ht20])))]; rfl
                  go_wp2_with (refine wpList_meth rfl (.tmp 54) _ #[] #[] rfl _ rfl #[] (map_none _) _ (tall_meth ⟨fun _ => by kernel_rfl, fun _ _ => by kernel_rfl, fun _ _ _ => by kernel_rfl, fun _ _ _ => by kernel_rfl, fun _ _ _ _ => by kernel_rfl, fun _ _ _ _ => by kernel_rfl⟩ hwf HV _) ?_; rintro u w6 ⟨rfl, hb6⟩)
                  go_ret2
                  exact ⟨congrArg Ending.returned HE.out.symm, (hbel.trans (hBr.mono hbel.size)).trans (hb6.mono (Nat.le_trans hbel.size hBr.size))⟩
                · have HR : Hid (P.runI (ns.take (k + 1)) [] = some (ts.take r ++ [t])) := by
                    show _ = _
                    rw [P.runI_next hrun.out.1 HK.out]; exact HST.out.trans (by rw [HG.out]; simp [ht20])
                  have hO5 := ownsRow_cut (ownsRow_belowV HO.out hBr) r (Nat.le_add_right _ _)
                  have HO5 : Hid (w5.ownsRow wc.heap.size 44 1 (.slice (some ⟨gp, 0, none⟩) r _) r ((ts.map val).take r)) := hO5
                  clear hO5
                  go_wp2_with (first
                    | (refine wpList_meth rfl (.tmp 54) _ #[] #[] rfl _ rfl #[] (map_none _) _ (tall_meth ⟨fun _ => by kernel_rfl, fun _ _ => by kernel_rfl, fun _ _ _ => by kernel_rfl, fun _ _ _ => by kernel_rfl, fun _ _ _ _ => by kernel_rfl, fun _ _ _ _ => by kernel_rfl⟩ hwf HV _) ?_; rintro u w6 ⟨rfl, hb6⟩; have hO6 := ownsRow_belowV HO5.out hb6)
                    | (at_builtin; refine wpList_append_own _ rfl (.tmp 60) (.tmp 62) 90 rfl wc.heap.size 44 i0 .nilIface 1 16 Tryz.underlying90 hi hz0 hz1 hz2 rfl (by decide) _ _ _ rfl (hO6.alloc _) ⟨w6.heap.size, 0, none⟩ 1 1 [.iface ty vt] rfl rfl (news_oneP _ _ _) (one_iface _ _) (by unfold maxLen; omega) (by omega) (by have := hbel.size; have := hBr.size; have := hb6.size; simp; omega) ?_; intro v' w7 hown7 hgrow7 _))
                  have hgl := (hO6.lt gp rfl).1
                  have hB7 : Below wc.heap.size wc w7 := ((hbel.trans (hBr.mono hbel.size)).trans (hb6.mono (Nat.le_trans hbel.size hBr.size))).alloc (by have := hbel.size; have := hBr.size; have := hb6.size; omega) _ |>.grown hgrow7 (by have := hbel.size; have := hBr.size; have := hb6.size; simp; omega) (fun j hj => by have e : some gp = some j := hj; cases e; exact hgl)
                  go_roundw
                  case rel =>
                    have hcc : r ≤ k := by omega
                    refine ⟨k + 1, r + 1, ts.take r ++ [t], by omega, by go_num, by omega, ⟨HR.out, ?_, ?_⟩, ?_, hB7⟩
                    · have := hrun.out.2.1
                      simp; omega
                    · intro u hu
                      rcases List.mem_append.1 hu with hu | hu
                      · exact hrun.out.2.2 u (List.mem_of_mem_take hu)
                      · simp at hu
                        subst hu
                        exact ⟨hwf, by omega⟩
                    · have e : (ts.take r ++ [t]).map val = (ts.map val).take r ++ [.iface ty vt] := by simp [HV.out, List.map_take]
                      rw [e]
                      exact hown7
                  case measure => simp [intOf]; omega
      · -- the end
        have hke : k = ns.length := by omega
        have hrun2 : P.runI ns [] = some ts := by
          have h := hrun.out.1
          rw [hke, List.take_length] at h
          exact h
        have hend := P.treeI_end HL.out hrun2
        have HW := hrun.out.2.2
        have hml := hrun.out.2.1
        rcases hown.2 with ⟨hv, hm0⟩ | ⟨gp, cap, cur, hv, hgp, hblk, hcap, hcap2, hcur, htake⟩
        · subst hv hm0
          obtain rfl : ts = [] := List.eq_nil_of_length_eq_zero hml
          have HE : Hid (growV (P.treeI ns) = .tuple #[.nilIface, .bool false]) := by show _ = _; rw [hend]; rfl
          clear hend hrun2 HW hml hown hke
          go_wp2_with fail
          go_ret2
          exact ⟨congrArg Ending.returned HE.out.symm, hbel⟩
        · subst hv
          by_cases m1 : m = 1
          · subst m1
            match ts, hml with
            | [t], _ =>
              obtain ⟨ty, vt, hvt⟩ := val_iface (HW t (by simp)).1
              have HE : Hid (growV (P.treeI ns) = .tuple #[.iface ty vt, .bool true]) := by show _ = _; rw [hend, ← hvt]; rfl
              have hc := hown.cellAt 0 (by omega)
              simp only [List.map_cons, List.map_nil, List.getElem?_cons_zero, hvt] at hc
              clear hend hrun2 HW hml hown hke hblk hcur htake hvt
              go_wp2_with fail
              go_ret2
              exact ⟨congrArg Ending.returned HE.out.symm, hbel⟩
          · have HE : Hid (growV (P.treeI ns) = .tuple #[.nilIface, .bool false]) := by
              show _ = _
              rw [hend]
              match ts, hml with
              | [], _ => rfl
              | [_], h => exact absurd h.symm m1
              | _ :: _ :: _, _ => rfl
            have hm1 : ((m : Int) != 1) = true := by rw [bne_iff_ne]; omega
            clear hend hrun2 HW hml hown hke hblk hcur htake
            go_wp2_with fail
            go_ret2
            exact ⟨congrArg Ending.returned HE.out.symm, hbel⟩

theorem tree_any (ns : List P.Nd) (g cn : Nat) (w : World) (h : Nodes0 w g ns) (hsm : Small ns) :
    Calls Tryz.prog 17 #[.slice (some ⟨g, 0, none⟩) ns.length cn] w fun e w' => e = .returned (growV (P.treeI ns)) ∧ Below w.heap.size w w' := by
  cases hl : P.lone ns with
  | false => exact treeLoop_any ns g cn w h hl hsm
  | true =>
    obtain ⟨n, rfl, _⟩ := P.lone_facts hl
    exact treeLone_any n g cn w h hl

end Go.Proofs.YthjicahpfhjfdaaGreatDoor
