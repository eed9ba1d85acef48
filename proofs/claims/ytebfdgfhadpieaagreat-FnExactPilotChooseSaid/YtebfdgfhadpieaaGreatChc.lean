import Derived.Test.YtebfdgfhadpieaaGreatScr
namespace Go.Proofs.YtebfdgfhadpieaaGreat
open Go.RowKit
abbrev oV (x : Flt) (ci : Nat) (y : Cpy) (z : Nat × Brt) : Array Value := #[.int .i64 ((z.1 : Nat) : Int), .int .i64 (n1C y z.2), .int .i64 (n2C x ci y z.2), .int .i64 (n3C x ci y z.2), .int .i64 (n4C x ci y z.2)]
def encO (x : Flt) (ci : Nat) (y : Cpy) (z : Nat × Brt) : Array Value := #[.agg (oV x ci y z)]
theorem B2.of_but {m : Nat} {w w' : World} (h : But m w.heap.size w w') : B2 m m w w' := ⟨h.os, h.tape, h.output, h.size, fun k hk h1 _ => h.block k hk h1⟩
theorem FoundM.kps {G : Nat → Prop} {p m1 m2 m3 m4 n : Nat} {x : Flt} {a1 : Option Addr} {c1 : Nat} {a2 : Option Addr} {c2 : Nat} {a3 : Option Addr} {c3 : Nat} {w w' : World} (h : FoundM p m1 m2 m3 m4 n x a1 c1 a2 c2 a3 c3 w) (k : KpS G w w') (hp : ¬ G p) (h1 : ¬ G m1) (h2 : ¬ G m2) (h3 : ¬ G m3) (h4 : ¬ G m4) : FoundM p m1 m2 m3 m4 n x a1 c1 a2 c2 a3 c3 w' := by
 obtain ⟨q1, q2, q3, q4, q5, q6, q7⟩ := h
 refine ⟨fun j v hj => (k.cell (a := ⟨p, 0 + j, none⟩) q2 hp).trans (q1 j v hj), Nat.lt_of_lt_of_le q2 k.size, ?_, ?_, ?_, ?_, q7⟩
 ·obtain ⟨es, clock, r1, r2⟩ := q3
  exact ⟨es, clock, (k.block m1 (Array.getElem?_eq_some_iff.1 r1).1 h1).trans r1, r2⟩
 ·obtain ⟨es, clock, r1, r2⟩ := q4
  exact ⟨es, clock, (k.block m2 (Array.getElem?_eq_some_iff.1 r1).1 h2).trans r1, r2⟩
 ·obtain ⟨es, clock, r1, r2⟩ := q5
  exact ⟨es, clock, (k.block m3 (Array.getElem?_eq_some_iff.1 r1).1 h3).trans r1, r2⟩
 ·obtain ⟨n', D', r0, ⟨es, clock, r1, r2⟩, r3⟩ := q6
  exact ⟨n', D', r0, ⟨es, clock, (k.block m4 (Array.getElem?_eq_some_iff.1 r1).1 h4).trans r1, r2⟩, r3⟩
theorem offers_any (p : Nat) (ci : Int) (w : World) :
  Calls Tryz.prog 46 #[.pointer (some ⟨p, 0, none⟩), .int .i64 ci] w fun e w' => e = .returned (.func (.func 76) #[] #[.pointer (some ⟨w.heap.size, 0, none⟩), .pointer (some ⟨w.heap.size + 1, 0, none⟩)]) ∧ w' = (w.alloc (Obj.cells #[.pointer (some ⟨p, 0, none⟩)] 49)).alloc (Obj.cells #[.int .i64 ci] 3) := by
 go_enter Tryz.func46, Tryz.ntmps46
 go_wp2_with fail
 go_ret
 exact ⟨rfl, rfl⟩
set_option maxHeartbeats 8000000 in
set_option maxRecDepth 100000 in
theorem offers_seq (W0 : World) (lo p m1 m2 m3 m4 ci : Nat) (x : Flt) (a1 : Option Addr) (c1 : Nat) (a2 : Option Addr) (c2 : Nat) (a3 : Option Addr) (c3 : Nat) (y : Cpy) (Bf Bi : Nat) (G : Nat → Prop) (w : World) (hW : Below W0.heap.size W0 w) (hF : FoundM p m1 m2 m3 m4 0 x a1 c1 a2 c2 a3 c3 w) (hp : W0.heap.size ≤ p) (hm4 : W0.heap.size ≤ m4)
  (n1 : SliceC BrtC 6 lo W0 a1 x.berths) (n3 : SliceC CpyC 12 lo W0 a3 x.copies) (hv : validI x = true) (hy : x.copies[ci]? = some y)
  (hBf : Blk Bf #[.pointer (some ⟨p, 0, none⟩)] 49 w) (hBi : Blk Bi #[.int .i64 ((ci : Nat) : Int)] 3 w) (kf : ¬ G Bf ∧ Bf ≠ m4) (ki : ¬ G Bi ∧ Bi ≠ m4)
  (hG : (∀ k, G k → W0.heap.size ≤ k ∧ k < w.heap.size) ∧ ¬ G p ∧ ¬ G m1 ∧ ¬ G m2 ∧ ¬ G m3 ∧ ¬ G m4) :
  SeqS Tryz.prog 76 #[.pointer (some ⟨Bf, 0, none⟩), .pointer (some ⟨Bi, 0, none⟩)] (encO x ci y) G m4 m4 x.berths.length (fun xs => xs = offT x ci y x.berths.length) w := by
 intro Y J W hbW hJ hY h0
 obtain ⟨hGb, gp, g1, g2, g3, g4⟩ := hG
 obtain ⟨kf1, kf2⟩ := kf
 obtain ⟨ki1, ki2⟩ := ki
 obtain ⟨h12, h60, _, _, _, _⟩ := valid_parts hv
 have hb12 : x.berths.length ≤ 12 := (valid_more hv).1
 have N1 := iH n1
 have N3 := iH n3
 have HV := iH hv
 have HYC := iH hy
 have HGB := iH hGb
 have HJ := iH hJ
 have HY := iH hY
 have HF0 := iH (hF.below hbW)
 have HBf := iH (hBf.below hbW hBf.lt)
 have HBi := iH (hBi.below hbW hBi.lt)
 have H0 := iH h0
 have hWW : Below W0.heap.size W0 W := hW.trans (hbW.mono hW.size)
 have hwW := hbW.size
 clear n1 n3 hv hy hGb hJ hY hF hBf hBi h0 hW hbW h12
 show Calls Tryz.prog 76 #[.func (.yield Y) #[] #[], .pointer (some ⟨Bf, 0, none⟩), .pointer (some ⟨Bi, 0, none⟩)] W _
 go_enter Tryz.func76, Tryz.ntmps76
 go_upto_region 1 with (refine (come_any _).mono ?_; rintro e w1 ⟨rb, rc, rfl, hr1, hg1, hg2, hb1⟩)
 have HR1 := iH hr1
 have HF1 := iH (HF0.out.below hb1)
 have HBf1 := iH (HBf.out.below hb1 HBf.out.lt)
 have HBi1 := iH (HBi.out.below hb1 HBi.out.lt)
 have HJ1 := iH (HJ.out _ _ _ H0.out (B2.of_below hb1))
 have hW1 : Below W0.heap.size W0 w1 := hWW.trans (hb1.mono hWW.size)
 have hrm : rb ≠ m4 := by have := HF0.out.memo.lt; omega
 have hrG : ¬ G rb := fun h => by have := (HGB.out rb h).2; omega
 clear hr1 hb1 hg1 HF0 HBf HBi H0 hWW
 have e1 : w1.cell? ⟨Bf, 0, none⟩ = some (.pointer (some ⟨p, 0, none⟩)) := HBf1.out.cell rfl
 have e2 : w1.cell? ⟨p, 1, none⟩ = some (.slice a1 x.berths.length c1) := HF1.out.1 1 _ rfl
 go_wp2_with fail
 clear e1 e2
 go_loopw [14] (fun i wr => ∃ k : Nat, k ≤ x.berths.length ∧ i = .int .i64 ((k : Nat) : Int) ∧ Hid (J (offT x ci y k) wr) ∧ Hid (FoundM p m1 m2 m3 m4 (13 * k) x a1 c1 a2 c2 a3 c3 wr) ∧ Hid (Blk Bf #[.pointer (some ⟨p, 0, none⟩)] 49 wr) ∧ Hid (Blk Bi #[.int .i64 ((ci : Nat) : Int)] 3 wr) ∧ Hid (wr.rangeAt rb 0 comeV) ∧ rb < wr.heap.size ∧ Below W0.heap.size W0 wr) (fun i _ => x.berths.length - (intOf i).toNat)
 case atStart => exact ⟨0, Nat.zero_le _, rfl, HJ1, HF1, HBf1, HBi1, HR1, hg2, hW1⟩
 case round =>
  clear HJ1 HF1 HBf1 HBi1 HR1 hg2 hW1
  obtain ⟨k, hk, rfl, HJr, HFr, HBf, HBi, HRr, hrb, hWr⟩ := hrel
  by_cases hlt : k < x.berths.length
  case neg =>
   have hke : k = x.berths.length := by omega
   subst hke
   go_wp2_with fail
   first | go_end0 | ((try simp only [Exit.inBlock, Exit.then]); refine bodyPost_ret (results_none rfl _ _ _) rfl ?_)
   exact ⟨⟨_, rfl⟩, _, rfl, HJr.out⟩
  obtain ⟨b, hb⟩ : ∃ b, x.berths[k]? = some b := ⟨x.berths[k], List.getElem?_eq_getElem hlt⟩
  have HB := iH hb
  clear hb
  have e1 : wr.cell? ⟨Bf, 0, none⟩ = some (.pointer (some ⟨p, 0, none⟩)) := HBf.out.cell rfl
  have e2 : wr.cell? ⟨Bi, 0, none⟩ = some (.int .i64 ((ci : Nat) : Int)) := HBi.out.cell rfl
  go_wp2_with fail
  clear e1 e2
  refine (spotOf_any p x a1 c1 a2 c2 a3 c3 lo ci k y b _ ⟨HFr.out.1 1 _ rfl, HFr.out.1 2 _ rfl, HFr.out.1 3 _ rfl⟩ (N1.out.below BrtC.holds hWr nL) (N3.out.below CpyC.holds hWr nL) (by omega) HYC.out HB.out).mono ?_
  rintro e w2 ⟨a7, c7, am, cm, rfl, _, _, ⟨cb, co, bb, bo, ea, eb, hs7, hsm⟩, hb2⟩
  have S7 : Hid (SliceC LikC 2 lo W0 a7 y.likes) := by
   obtain ⟨b', o', e, _, hl, hc⟩ := N3.out.at HYC.out
   rw [ea] at e
   cases e
   obtain ⟨a7', c7', _, _, _, _, _, _, _, q7, _, _, _, _, _, _, _, _, _, _, n7⟩ := hc
   rw [hWr.cell (p := ⟨cb, co + ci * 12 + 7, none⟩) hl] at hs7
   have hq := (show W0.cell? ⟨cb, co + ci * 12 + 7, none⟩ = _ from q7).symm.trans hs7
   simp only [Option.some.injEq, Value.slice.injEq] at hq
   obtain ⟨rfl, _, _⟩ := hq
   exact n7
  have SM : Hid (SliceC StrC 1 lo W0 am b.marks) := by
   obtain ⟨b', o', e, _, hl, hc⟩ := N1.out.at HB.out
   rw [eb] at e
   cases e
   obtain ⟨am', cm', _, _, r2, _, _, _, _, _, nm⟩ := hc
   rw [hWr.cell (p := ⟨bb, bo + k * 6 + 2, none⟩) hl] at hsm
   have hq := (show W0.cell? ⟨bb, bo + k * 6 + 2, none⟩ = _ from r2).symm.trans hsm
   simp only [Option.some.injEq, Value.slice.injEq] at hq
   obtain ⟨rfl, _, _⟩ := hq
   exact nm
  clear hs7 hsm ea eb
  obtain ⟨u1, hu1⟩ : ∃ u : Int, u = (useTo x.copies b.name ci x.copies.length).1 := ⟨_, rfl⟩
  obtain ⟨u2, hu2⟩ : ∃ u : Int, u = (useTo x.copies b.name ci x.copies.length).2.1 := ⟨_, rfl⟩
  obtain ⟨u3, hu3⟩ : ∃ u : Int, u = (useTo x.copies b.name ci x.copies.length).2.2 := ⟨_, rfl⟩
  rw [← hu1, ← hu2, ← hu3]
  have HU1 : Hid (u1 = standTo x ci b.name x.copies.length) := hu1.trans (use_stand ci b.name _ h60)
  have HU2 : Hid (u2 = roomTo x ci b.name x.copies.length) := hu2.trans (use_room ci b.name (fun k c h => ((valid_more HV.out).2.2.2 k c h).1) _ h60)
  have HU3 : Hid (u3 = holdTo x ci b.name x.copies.length) := hu3.trans (use_hold ci b.name (fun k c h => ((valid_apart HV.out).1 k c h).1) _ h60)
  have HR2 : Hid (0 ≤ u2 ∧ u2 ≤ 60000) := by
   have := roomTo_bd ci b.name (fun k c h => ((valid_more HV.out).2.2.2 k c h).1) x.copies.length
   show _ ∧ _
   rw [HU2.out]
   omega
  have HR3 : Hid (0 ≤ u3 ∧ u3 ≤ 60000) := by
   have := holdTo_bd ci b.name (fun k c h => ((valid_apart HV.out).1 k c h).1) x.copies.length
   show _ ∧ _
   rw [HU3.out]
   omega
  have HSC : Hid (firstR (comeR x ci y b u1 u2 u3) = fitsI x ci y b false) := come_first HU1.out HU2.out HU3.out
  have HK : Hid (SpotK W0 lo p m4 ci k x a1 a3 y a7 b am) := ⟨hp, hm4, N1.out, N3.out, S7.out, SM.out, HV.out, HYC.out, HB.out⟩
  clear hu1 hu2 hu3
  have hza : Blk w2.heap.size zeroSpot 131 (w2.alloc (Obj.cells zeroSpot 131)) := Blk.alloc _ _ _
  have HTS : Hid ((w2.alloc (Obj.cells zeroSpot 131)).there w2.heap.size 0 24) := hza.there
  obtain ⟨w3, HW3⟩ : ∃ w3, Hid (w3 = (w2.alloc (Obj.cells zeroSpot 131)).setCells w2.heap.size 0 (spotA p ci k y a7 c7 b am cm u1 u2 u3).toList) := ⟨_, rfl⟩
  have HX3 : Hid (Blk w2.heap.size (spotA p ci k y a7 c7 b am cm u1 u2 u3) 131 w3) := by
   show Blk _ _ _ _
   rw [HW3.out]
   exact hza.setAll (spotA p ci k y a7 c7 b am cm u1 u2 u3) rfl
  have hbs : Below w2.heap.size w2 w3 := by
   rw [HW3.out]
   exact below_setCells nL _ _ _ ((Below.refl _ w2).alloc nL _)
  have hb3 : Below wr.heap.size wr w3 := hb2.trans (hbs.mono hb2.size)
  have hq3 : wr.heap.size ≤ w2.heap.size := hb2.size
  have hm4r := HFr.out.memo.lt
  have HF3 := iH (HFr.out.below hb3)
  have HJ3 := iH (HJ.out _ _ _ HJr.out (B2.of_below hb3))
  have HBf3 := iH (HBf.out.below hb3 HBf.out.lt)
  have HBi3 := iH (HBi.out.below hb3 HBi.out.lt)
  have HRN : Hid (w3.rangeAt rb 0 comeV) := range_belowV HRr.out hb3 hrb
  have HRR := iH (rsnIn_come x ci y b u1 u2 u3 HRN.out)
  have hrb3 : rb < w3.heap.size := Nat.lt_of_lt_of_le hrb hb3.size
  have hW3 : Below W0.heap.size W0 w3 := hWr.trans (hb3.mono hWr.size)
  clear hza hbs hb3 hb2 HJr HFr HBf HBi HRr hrb hWr
  go_upto_region 5 with (first | (refine wpList_store_to rfl 131 _ _ rfl w2.heap.size 0 (spotA p ci k y a7 c7 b am cm u1 u2 u3) rfl rfl HTS.out isz_Spot (by simp [Value.oneCell']) w3 HW3.out ?_))
  clear HTS HW3
  have hqm : w2.heap.size ≠ m4 := by omega
  generalize w2.heap.size = q at *
  have hne1 := some_ne HB.out
  have hne2 := services_ne HV.out HYC.out
  have hne3 := some_ne HYC.out
  have HCALL : Hid (Calls Tryz.prog 79 #[.slice (some ⟨rb, 0, none⟩) 8 rc, .agg (spotA p ci k y a7 c7 b am cm u1 u2 u3)] w3 fun e w' => e = .returned (.int .i64 (fitsI x ci y b false)) ∧ MemoAt m4 (13 * k + 8) x.berths w' ∧ But m4 w3.heap.size w3 w') := by
   have h := firstOf_any W0 lo p m1 m2 m3 m4 ci k x a1 c1 a2 c2 a3 c3 y a7 c7 b am cm u1 u2 u3 (comeR x ci y b u1 u2 u3) rb rc (13 * k) w3 HK.out (Nat.le_refl 8) (by omega) (fun k' r h => come_says W0 lo p m1 m2 m3 m4 ci k x a1 c1 a2 c2 a3 c3 y a7 c7 b am cm u1 u2 u3 HK.out HR2.out HR3.out r (List.mem_of_getElem? h)) (fun k' r h => come_enters x ci y b u1 u2 u3 r (List.mem_of_getElem? h)) hW3 HF3.out HRR.out hrb3 hrm
   rw [HSC.out] at h
   exact h
  clear HRR HSC HR2 HR3
  by_cases hfit : fitsI x ci y b false = 0
  case neg =>
   have HOF := iH (off_skip HB.out hfit)
   generalize fitsI x ci y b false = fv at *
   go_wp2_with (refine wpList_load_mid rfl 131 _ rfl q 0 (by first | rfl | (simp [go_sem]; done)) (spotA p ci k y a7 c7 b am cm u1 u2 u3).toList _ HX3.out.rangeA Tryz.underlying131 rfl isz_Spot ?_)
   refine HCALL.out.mono ?_
   rintro e w5 ⟨rfl, hm5, hb5⟩
   have HF5 : Hid (FoundM p m1 m2 m3 m4 (13 * (k + 1)) x a1 c1 a2 c2 a3 c3 w5) := HF3.out.but hb5 (hm5.mono (by omega)) hne1 hne2 hne3
   have HJ5 := iH (HJ.out _ _ _ HJ3.out (B2.of_but hb5))
   have HBf5 : Hid (Blk Bf #[.pointer (some ⟨p, 0, none⟩)] 49 w5) := (hb5.block _ HBf3.out.lt kf2).trans HBf3.out
   have HBi5 : Hid (Blk Bi #[.int .i64 ((ci : Nat) : Int)] 3 w5) := (hb5.block _ HBi3.out.lt ki2).trans HBi3.out
   have HRN5 : Hid (w5.rangeAt rb 0 comeV) := fun j v hj => (hb5.cell (a := ⟨rb, 0 + j, none⟩) hrb3 hrm).trans (HRN.out j v hj)
   have hW5 : Below W0.heap.size W0 w5 := hW3.trans (hb5.below hW3.size hm4)
   have hrb5 : rb < w5.heap.size := Nat.lt_of_lt_of_le hrb3 hb5.size
   have hd : decide (fv = 0) = false := decide_eq_false hfit
   have hd2 : (fv == 0) = false := by simpa using hfit
   clear hm5 hb5 HCALL HF3 HJ3 HBf3 HBi3 HRN hrb3 hW3 HX3
   go_wp2_with fail
   go_roundw
   case rel => exact ⟨k + 1, by omega, by go_num, by rw [HOF.out]; exact HJ5, HF5, HBf5, HBi5, HRN5, hrb5, hW5⟩
   case measure => simp [intOf]; omega
  have HOF := iH (off_take HB.out hfit)
  rw [hfit] at HCALL
  clear hfit
  refine (wpIn_wide (n := 5)).1 ?_
  gi_wp2_with (refine wpListIn_load_mid (by first | rfl | kernel_rfl) 131 _ rfl q 0 (by first | rfl | (simp [go_sem]; done)) (spotA p ci k y a7 c7 b am cm u1 u2 u3).toList _ HX3.out.rangeA Tryz.underlying131 rfl isz_Spot ?_)
  refine ⟨trivial, (callsIn_wide.2 HCALL.out).mono ?_⟩
  rintro e w5 ⟨rfl, hm5, hb5⟩
  have HF5 : Hid (FoundM p m1 m2 m3 m4 (13 * k + 8) x a1 c1 a2 c2 a3 c3 w5) := HF3.out.but hb5 hm5 hne1 hne2 hne3
  have HJ5 := iH (HJ.out _ _ _ HJ3.out (B2.of_but hb5))
  have HBf5 : Hid (Blk Bf #[.pointer (some ⟨p, 0, none⟩)] 49 w5) := (hb5.block _ HBf3.out.lt kf2).trans HBf3.out
  have HBi5 : Hid (Blk Bi #[.int .i64 ((ci : Nat) : Int)] 3 w5) := (hb5.block _ HBi3.out.lt ki2).trans HBi3.out
  have HRN5 : Hid (w5.rangeAt rb 0 comeV) := fun j v hj => (hb5.cell (a := ⟨rb, 0 + j, none⟩) hrb3 hrm).trans (HRN.out j v hj)
  have hW5 : Below W0.heap.size W0 w5 := hW3.trans (hb5.below hW3.size hm4)
  have hrb5 : rb < w5.heap.size := Nat.lt_of_lt_of_le hrb3 hb5.size
  have HX5 : Hid (Blk q (spotA p ci k y a7 c7 b am cm u1 u2 u3) 131 w5) := (hb5.block _ HX3.out.lt hqm).trans HX3.out
  clear hm5 hb5 HCALL HF3 HJ3 HBf3 HBi3 HRN hrb3 hW3 HX3
  gi_wp2_with (refine wpListIn_load_mid (by first | rfl | kernel_rfl) 131 _ rfl q 0 (by first | rfl | (simp [go_sem]; done)) (spotA p ci k y a7 c7 b am cm u1 u2 u3).toList _ HX5.out.rangeA Tryz.underlying131 rfl isz_Spot ?_)
  refine ⟨trivial, (callsIn_wide.2 (score_any p m1 m2 m3 m4 ci k x a1 c1 a2 c2 a3 c3 y a7 c7 b am cm u1 u2 u3 lo W0 w5 hW5 (13 * k + 8) (by omega) HF5.out hp hm4 N1.out N3.out S7.out SM.out HV.out HYC.out HB.out HU2.out)).mono ?_⟩
  rintro e w6 ⟨rfl, hm6, hb6⟩
  rw [scoreA_n]
  have HF6 : Hid (FoundM p m1 m2 m3 m4 (13 * (k + 1)) x a1 c1 a2 c2 a3 c3 w6) := HF5.out.but hb6 (hm6.mono (by omega)) hne1 hne2 hne3
  have HJ6 := iH (HJ.out _ _ _ HJ5.out (B2.of_but hb6))
  have HBf6 : Hid (Blk Bf #[.pointer (some ⟨p, 0, none⟩)] 49 w6) := (hb6.block _ HBf5.out.lt kf2).trans HBf5.out
  have HBi6 : Hid (Blk Bi #[.int .i64 ((ci : Nat) : Int)] 3 w6) := (hb6.block _ HBi5.out.lt ki2).trans HBi5.out
  have HRN6 : Hid (w6.rangeAt rb 0 comeV) := fun j v hj => (hb6.cell (a := ⟨rb, 0 + j, none⟩) hrb5 hrm).trans (HRN5.out j v hj)
  have hW6 : Below W0.heap.size W0 w6 := hW5.trans (hb6.below hW5.size hm4)
  have hrb6 : rb < w6.heap.size := Nat.lt_of_lt_of_le hrb5 hb6.size
  clear hm6 hb6 HF5 HJ5 HBf5 HBi5 HRN5 hrb5 hW5 HX5
  obtain ⟨fn, tmps, assign, body, hyy, hR⟩ := YieldAt.anyQ (m' := 4) (HY.out _ (k, b) w6 HJ6.out (by have := off_len (x := x) (ci := ci) (y := y) k; omega))
  dsimp only [encO, oV] at hyy
  have hR' := hR.mono (R' := fun e W9 => e = .returned (.bool true) ∧ Hid (J (offT x ci y k ++ [(k, b)]) W9 ∧ KpS G w6 W9)) (by
   rintro e W9 ⟨h1, h2, h3⟩
   exact ⟨h1, h2, h3⟩)
  clear hR
  gi_wp2_with (refine hR'.mono ?_; rintro e W9 ⟨rfl, hq9⟩)
  clear hR' hyy
  have hk9 := hq9.out.2
  have HF9 : Hid (FoundM p m1 m2 m3 m4 (13 * (k + 1)) x a1 c1 a2 c2 a3 c3 W9) := HF6.out.kps hk9 gp g1 g2 g3 g4
  have HBf9 : Hid (Blk Bf #[.pointer (some ⟨p, 0, none⟩)] 49 W9) := hk9.blk HBf6.out kf1
  have HBi9 : Hid (Blk Bi #[.int .i64 ((ci : Nat) : Int)] 3 W9) := hk9.blk HBi6.out ki1
  have HRN9 : Hid (W9.rangeAt rb 0 comeV) := fun j v hj => (hk9.cell (a := ⟨rb, 0 + j, none⟩) hrb6 hrG).trans (HRN6.out j v hj)
  have hW9 : Below W0.heap.size W0 W9 := hW6.trans ⟨hk9.os, hk9.tape, hk9.output, hk9.size, fun i hi => hk9.block i (Nat.lt_of_lt_of_le hi hW6.size) (fun hg => by have := (HGB.out i hg).1; omega)⟩
  have hrb9 : rb < W9.heap.size := Nat.lt_of_lt_of_le hrb6 hk9.size
  clear hk9 HF6 HBf6 HBi6 HRN6 hW6 hrb6 HJ6
  go_wp2_with fail
  go_roundw
  case rel => exact ⟨k + 1, by omega, by go_num, by rw [HOF.out]; exact hq9.out.1, HF9, HBf9, HBi9, HRN9, hrb9, hW9⟩
  case measure => simp [intOf]; omega
end Go.Proofs.YtebfdgfhadpieaaGreat
