import Derived.Test.YtihnjndnkgnmaaaGreatJ36
import Derived.Test.YtihnjndnkgnmaaaGreatHv1k1
import Derived.Test.YtihnjndnkgnmaaaGreatHv1k2
import Derived.Test.YtihnjndnkgnmaaaGreatHv1k3
import Derived.Test.YtihnjndnkgnmaaaGreatHv1k4
import Derived.Test.YtihnjndnkgnmaaaGreatHv1k5
import Derived.Test.YtihnjndnkgnmaaaGreatTk0
import Derived.Test.YtihnjndnkgnmaaaGreatTkw
import Derived.Test.YtihnjndnkgnmaaaGreatJ35
import Derived.Test.YtihnjndnkgnmaaaGreatJ4
namespace Go.Proofs.YtihnjndnkgnmaaaGreat
open Go.RowKit

theorem event_any (x : Flt) (v : Evt) (a1 : Option Addr) (c1 b2 o2 c2 : Nat) (a3 : Option Addr) (c3 : Nat) (am : Option Addr) (cm : Nat) (al : Option Addr) (cl lo : Nat) (w : World) (n1 : SliceC BrtC 6 lo w a1 x.berths) (n2 : SliceC SvcC 2 lo w (some ⟨b2, o2, none⟩) x.services) (n3 : SliceC CpyC 12 lo w a3 x.copies) (nm : SliceC StrC 1 lo w am v.berth.marks) (nl : SliceC LikC 2 lo w al v.copy.likes) (hvx : validI x = true) (hlb : x.berths.length ≤ 12) (hls : x.services.length ≤ 30) (hlc : x.copies.length ≤ 60) (hmk : ∀ y ∈ x.berths, y.marks.length ≤ 1048576) (hlk : ∀ y ∈ x.copies, y.likes.length ≤ 1048576) (hvm : v.berth.marks.length ≤ 1048576) (hvl : v.copy.likes.length ≤ 1048576) (z1 : SzB [v.berth]) (z3 : SzC [v.copy]) (za : v.at_.size ≤ maxLen) :
  Calls Tryz.prog 21 #[.agg #[.bool x.pack, .slice a1 x.berths.length c1, .slice (some ⟨b2, o2, none⟩) x.services.length c2, .slice a3 x.copies.length c3], .agg #[.int .i64 v.kind, .string v.berth.name, .string v.berth.zone, .slice am v.berth.marks.length cm, .int .i64 v.berth.room, .int .i64 v.berth.hold, .bool v.berth.closed, .string v.copy.name, .string v.copy.service, .int .i64 v.copy.rank, .int .i64 v.copy.born, .int .i64 v.copy.room, .int .i64 v.copy.hold, .string v.copy.select, .slice al v.copy.likes.length cl, .int .i64 v.copy.apart, .string v.copy.near, .string v.copy.fixed, .string v.copy.at_, .string v.name, .string v.at_]] w fun e w' => EvRes x v w e w' := by
 have hkk : v.kind = 1 ∨ v.kind = 2 ∨ v.kind = 3 ∨ v.kind = 4 ∨ v.kind = 5 ∨ (¬ v.kind = 1 ∧ ¬ v.kind = 2 ∧ ¬ v.kind = 3 ∧ ¬ v.kind = 4 ∧ ¬ v.kind = 5) := by omega
 rcases hkk with hkd | hkd | hkd | hkd | hkd | ⟨e1, e2, e3, e4, e5⟩
 ·exact event_k1 x v a1 c1 b2 o2 c2 a3 c3 am cm al cl lo w n1 n2 n3 nm nl hvx hlb hls hlc hmk hlk hvm hvl z1 z3 za hkd
 ·exact event_k2 x v a1 c1 b2 o2 c2 a3 c3 am cm al cl lo w n1 n2 n3 nm nl hvx hlb hls hlc hmk hlk hvm hvl z1 z3 za hkd
 ·exact event_k3 x v a1 c1 b2 o2 c2 a3 c3 am cm al cl lo w n1 n2 n3 nm nl hvx hlb hls hlc hmk hlk hvm hvl z1 z3 za hkd
 ·exact event_k4 x v a1 c1 b2 o2 c2 a3 c3 am cm al cl lo w n1 n2 n3 nm nl hvx hlb hls hlc hmk hlk hvm hvl z1 z3 za hkd
 ·exact event_k5 x v a1 c1 b2 o2 c2 a3 c3 am cm al cl lo w n1 n2 n3 nm nl hvx hlb hls hlc hmk hlk hvm hvl z1 z3 za hkd
 ·exact event_k0 x v a1 c1 b2 o2 c2 a3 c3 am cm al cl lo w n1 n2 n3 nm nl hvx hlb hls hlc hmk hlk hvm hvl z1 z3 za e1 e2 e3 e4 e5

end Go.Proofs.YtihnjndnkgnmaaaGreat

namespace Go.Proofs.YtihnjndnkgnmaaaGreat
open Go.RowKit Go.WideMaps Go.Maps

set_option maxHeartbeats 4000000 in
set_option maxRecDepth 100000 in
theorem move_any (x : Flt) (v : Evt) (pf p m1 m2 m3 m4 b1 o1 c1 : Nat) (a2 : Option Addr) (c2 b3 o3 c3 : Nat) (am : Option Addr) (cm : Nat) (al : Option Addr) (cl lo : Nat) (W0 w : World) (H : AcPre x v pf p m1 m2 m3 m4 b1 o1 c1 a2 c2 b3 o3 c3 am cm al cl lo W0 w) (hkd : v.kind = 5) :
  Calls Tryz.prog 101 #[.pointer (some ⟨p, 0, none⟩)] w fun e w' => AcRes x v pf p a2 c2 am cm al cl lo w e w' := by
 have hl1 : x.berths.length ≤ 13 := Nat.le_trans (valid_more H.hv).1 (by omega)
 have hl3 : x.copies.length ≤ 61 := Nat.le_trans (valid_parts H.hv).2.1 (by omega)
 have HP := iH H
 have HK := iH H.hK
 have hB := H.hB
 have HA := iH (valid_parts H.hv).2.2.2.1
 have k0 : w.cell? ⟨p, 0, none⟩ = some (.pointer (some ⟨pf, 0, none⟩)) := H.hK.cell rfl
 have kf : w.cell? ⟨pf, 6, none⟩ = some (.map (some m3)) := H.hF.1 6 _ rfl
 have kn : w.cell? ⟨p, 24, none⟩ = some (.string v.name) := H.hK.cell rfl
 have yl := look_places (s := v.name) H.hF.2.2.2.2.1.drew H.zn
 have HKD := iH hkd
 have hpw : p < w.heap.size := H.hK.lt
 clear H hkd
 go_enter Tryz.func101, Tryz.ntmps101
 go_upto_region 1 with fail
 have HT1 : Hid (lastOf (cpN x) v.name x.copies.length = lastOf (cpN x) v.name x.copies.length) := rfl
 generalize hj0 : lastOf (cpN x) v.name x.copies.length = L1 at yl
 have HJ0 := iH hj0
 clear hj0
 go_region
 clear yl k0 kf kn HT1
 have hBp : Below p w w.drew := (Below.refl p w).drew
 replace hB := hB.drew
 replace HK := iH HK.out.drew
 have HF1 := iH (HP.out.hF.below (Below.refl _ w).drew)
 have hpd : p < w.drew.heap.size := HK.out.lt
 generalize w.drew = w1 at *
 have k0 : w1.cell? ⟨p, 0, none⟩ = some (.pointer (some ⟨pf, 0, none⟩)) := HK.out.cell rfl
 have kf : w1.cell? ⟨pf, 4, none⟩ = some (.map (some m1)) := HF1.out.1 4 _ rfl
 have kn : w1.cell? ⟨p, 25, none⟩ = some (.string v.at_) := HK.out.cell rfl
 have yl := look_places (s := v.at_) HF1.out.2.2.1.drew HP.out.za
 generalize hj2 : lastOf (x.berths.map (·.name)) v.at_ x.berths.length = L2 at yl
 have HJ2 : Hid (lastOf (brN x) v.at_ x.berths.length = L2) := hj2
 clear hj2
 go_upto_region 2 with fail
 go_region
 replace hBp := hBp.drew
 replace hB := hB.drew
 replace HK := iH HK.out.drew
 replace hpd : p < w1.drew.heap.size := HK.out.lt
 clear yl k0 kf kn HF1
 generalize w1.drew = wn at *
 have k25 : wn.cell? ⟨p, 25, none⟩ = some (.string v.at_) := HK.out.cell rfl
 have k4 : wn.cell? ⟨p, 4, none⟩ = some (.slice (some ⟨b3, o3, none⟩) x.copies.length c3) := HK.out.cell rfl
 have HNO : Hid (L1 = none ∨ (L2 = none ∧ ¬ v.at_ = noText) → evF x v = none) := by
  intro h
  simp only [evF, HKD.out, HJ0.out, HJ2.out]
  rcases h with h | ⟨h1, h2⟩
  ·subst h
   simp
  ·subst h1
   simp [h2]
 have HYES : Hid (∀ k, L1 = some k → (v.at_ = noText ∨ L2.isSome = true) → evF x v = some { x with copies := movL x.copies k v.at_ }) := by
  intro k h1 h2
  simp only [evF, HKD.out, HJ0.out, HJ2.out]
  subst h1
  simp [h2]
 have HGO : Hid (∀ k, L1 = some k → k < x.copies.length) := fun k h => (lastOf_get (HJ0.out.trans h)).1
 clear HJ0 HJ2 HKD
 cases L1 with
 | none =>
  have HEV := iH (HNO.out (.inl rfl))
  clear HNO HYES HGO
  simp only [Option.isSome_none, Option.getD_none]
  go_wp2_with fail
  go_ret
  exact .inl ⟨HEV.out, rfl, hBp, HK.out.cell rfl⟩
 | some k =>
  simp only [Option.isSome_some, Option.getD_some]
  have hkl := HGO.out k rfl
  by_cases hno : L2 = none ∧ ¬ v.at_ = noText
  ·have HEV := iH (HNO.out (.inr hno))
   obtain ⟨hn1, hn2⟩ := hno
   subst hn1
   have ht := bts_ne hn2
   have ht0 : v.at_.toList.isEmpty = false := by
    cases he : v.at_.toList with
    | nil => exact absurd (by rw [ByteArray.toList_eq] at he; exact ByteArray.ext (Array.toList_inj.1 he)) hn2
    | cons _ _ => rfl
   clear HNO HYES HGO
   simp only [Option.isSome_none]
   go_wp2_with fail
   go_ret
   exact .inl ⟨HEV.out, rfl, hBp, HK.out.cell rfl⟩
  ·have hor : v.at_ = noText ∨ L2.isSome = true := by
    cases L2 with
    | none => exact .inl (Classical.not_not.1 (fun h => hno ⟨rfl, h⟩))
    | some _ => exact .inr rfl
   have HEV := iH (HYES.out k rfl hor)
   clear HNO HYES HGO hno
   obtain ⟨c, hc⟩ : ∃ c, x.copies[k]? = some c := ⟨x.copies[k], List.getElem?_eq_getElem hkl⟩
   have HMV := iH (mov_put HA.out hc v.at_)
   obtain ⟨bq, oq, eq, _, hbq, hcc⟩ := HP.out.n3.at hc
   cases eq
   obtain ⟨ax, cx, hrc, hlk⟩ := rngCpyD hcc
   have HLK := iH hlk
   have HRC : Hid (wn.rangeAt b3 (o3 + k * 12) [.string c.name, .string c.service, .int .i64 c.rank, .int .i64 c.born, .int .i64 c.room, .int .i64 c.hold, .string c.select, .slice ax c.likes.length cx, .int .i64 c.apart, .string c.near, .string c.fixed, .string c.at_]) := rngD hrc hB hbq
   have HSZ : Hid (SzC (movL x.copies k v.at_)) := by
    intro y hy
    have hz := HP.out.z3 c (List.mem_cons_of_mem _ (List.mem_of_getElem? hc))
    unfold movL at hy
    rw [hc] at hy
    rcases List.mem_append.1 hy with h | h
    ·exact HP.out.z3 y (List.mem_cons_of_mem _ (List.mem_of_mem_take h))
    ·rcases List.mem_cons.1 h with h | h
     ·subst h
      exact ⟨hz.1, hz.2.1, hz.2.2.1, hz.2.2.2.1, hz.2.2.2.2.1, HP.out.za⟩
     ·exact HP.out.z3 y (List.mem_cons_of_mem _ (List.mem_of_mem_drop h))
   clear hc hcc hrc hlk hbq
   cases L2 with
   | some kb =>
    clear hor
    simp only [Option.isSome_some]
    go_upto_region 5 with fail
    have hza : Blk wn.heap.size #[.string ⟨#[]⟩, .string ⟨#[]⟩, .int .i64 0, .int .i64 0, .int .i64 0, .int .i64 0, .string ⟨#[]⟩, .slice none 0 0, .int .i64 0, .string ⟨#[]⟩, .string ⟨#[]⟩, .string ⟨#[]⟩] 48 (wn.alloc (Obj.cells #[.string ⟨#[]⟩, .string ⟨#[]⟩, .int .i64 0, .int .i64 0, .int .i64 0, .int .i64 0, .string ⟨#[]⟩, .slice none 0 0, .int .i64 0, .string ⟨#[]⟩, .string ⟨#[]⟩, .string ⟨#[]⟩] 48)) := Blk.alloc _ _ _
    have HTS : Hid ((wn.alloc (Obj.cells #[.string ⟨#[]⟩, .string ⟨#[]⟩, .int .i64 0, .int .i64 0, .int .i64 0, .int .i64 0, .string ⟨#[]⟩, .slice none 0 0, .int .i64 0, .string ⟨#[]⟩, .string ⟨#[]⟩, .string ⟨#[]⟩] 48)).there wn.heap.size 0 12) := hza.there
    obtain ⟨w4, HW4⟩ : ∃ w4, Hid (w4 = (wn.alloc (Obj.cells #[.string ⟨#[]⟩, .string ⟨#[]⟩, .int .i64 0, .int .i64 0, .int .i64 0, .int .i64 0, .string ⟨#[]⟩, .slice none 0 0, .int .i64 0, .string ⟨#[]⟩, .string ⟨#[]⟩, .string ⟨#[]⟩] 48)).setCells wn.heap.size 0 [.string c.name, .string c.service, .int .i64 c.rank, .int .i64 c.born, .int .i64 c.room, .int .i64 c.hold, .string c.select, .slice ax c.likes.length cx, .int .i64 c.apart, .string c.near, .string c.fixed, .string c.at_]) := ⟨_, rfl⟩
    have HM4 : Hid (Blk wn.heap.size #[.string c.name, .string c.service, .int .i64 c.rank, .int .i64 c.born, .int .i64 c.room, .int .i64 c.hold, .string c.select, .slice ax c.likes.length cx, .int .i64 c.apart, .string c.near, .string c.fixed, .string c.at_] 48 w4) := by
     show Blk _ _ _ _
     rw [HW4.out]
     exact hza.setAll #[.string c.name, .string c.service, .int .i64 c.rank, .int .i64 c.born, .int .i64 c.room, .int .i64 c.hold, .string c.select, .slice ax c.likes.length cx, .int .i64 c.apart, .string c.near, .string c.fixed, .string c.at_] rfl
    have hbx : Below wn.heap.size wn w4 := by
     rw [HW4.out]
     exact below_setCells nL _ _ _ ((Below.refl _ wn).alloc nL _)
    have hB4 : Below W0.heap.size W0 w4 := hB.trans (hbx.mono hB.size)
    have hBp4 := hBp.trans (hbx.mono (Nat.le_of_lt hpd))
    have HK4 := iH (HK.out.below hbx HK.out.lt)
    clear hza hbx hB hBp
    go_upto_region 6 with (first | (refine wpList_load_mid rfl 48 _ rfl b3 (o3 + k * 12) (by first | rfl | (simp [go_sem]; done)) [.string c.name, .string c.service, .int .i64 c.rank, .int .i64 c.born, .int .i64 c.room, .int .i64 c.hold, .string c.select, .slice ax c.likes.length cx, .int .i64 c.apart, .string c.near, .string c.fixed, .string c.at_] _ HRC.out Tryz.underlying48 rfl isz_Cpy ?_) | (refine wpList_store_to rfl 48 _ _ rfl wn.heap.size 0 #[.string c.name, .string c.service, .int .i64 c.rank, .int .i64 c.born, .int .i64 c.room, .int .i64 c.hold, .string c.select, .slice ax c.likes.length cx, .int .i64 c.apart, .string c.near, .string c.fixed, .string c.at_] rfl rfl HTS.out isz_Cpy (by simp [Value.oneCell']) w4 HW4.out ?_))
    clear HTS HW4 HRC k25 k4 HK
    obtain ⟨pm, hpm⟩ : ∃ pm, pm = wn.heap.size := ⟨_, rfl⟩
    rw [← hpm] at HM4 ⊢
    have hpp : p < pm := by omega
    clear hpm
    have k25 : w4.cell? ⟨p, 25, none⟩ = some (.string v.at_) := HK4.out.cell rfl
    have k11 : w4.cell? ⟨pm, 11, none⟩ = some (.string c.at_) := HM4.out.cell rfl
    have f11 := HM4.out.frozen 11
    go_upto_region 7 with fail
    clear k25 k11 f11
    have HM6 : Hid (Blk pm #[.string c.name, .string c.service, .int .i64 c.rank, .int .i64 c.born, .int .i64 c.room, .int .i64 c.hold, .string c.select, .slice ax c.likes.length cx, .int .i64 c.apart, .string c.near, .string c.fixed, .string v.at_] 48 (w4.setCell ⟨pm, 11, none⟩ (.string v.at_))) := HM4.out.set 11 _
    have HK6 := iH (HK4.out.other (a := ⟨pm, 11, none⟩) (show p ≠ pm by omega) (.string v.at_))
    have hB6 : Below W0.heap.size W0 (w4.setCell ⟨pm, 11, none⟩ (.string v.at_)) := hB4.setCell (p := ⟨pm, 11, none⟩) (by show W0.heap.size ≤ pm; have h9 := HP.out.hp; omega) _
    have hBp6 : Below p w (w4.setCell ⟨pm, 11, none⟩ (.string v.at_)) := hBp4.setCell (p := ⟨pm, 11, none⟩) (by show p ≤ pm; omega) _
    clear HM4 HK4 hB4 hBp4
    generalize w4.setCell ⟨pm, 11, none⟩ (.string v.at_) = w6 at *
    refine wp_region_until (S := fun wy => Blk p (chV pf x.pack (.slice (some ⟨b1, o1, none⟩) x.berths.length c1) (.slice a2 x.services.length c2) (.slice (some ⟨b3, o3, none⟩) x.copies.length c3) v am cm al cl) 76 wy ∧ Blk pm #[.string c.name, .string c.service, .int .i64 c.rank, .int .i64 c.born, .int .i64 c.room, .int .i64 c.hold, .string c.select, .slice ax c.likes.length cx, .int .i64 c.apart, .string c.near, .string c.fixed, .string v.at_] 48 wy) 11 (by kernel_rfl) ⟨HK6.out.drew, HM6.out.drew⟩ (fun hS => ?_)
    have HK7 := iH HK6.out.drew
    have HM7 := iH HM6.out.drew
    have hB7 := hB6.drew
    have hBp7 := hBp6.drew
    have hpd7 : p < w6.drew.heap.size := HK7.out.lt
    clear HK6 HM6 hB6 hBp6
    generalize w6.drew = w7 at *
    refine tv 0 ⟨some 68, _, _, _, _, none⟩ (.pointer (some ⟨p, 0, none⟩)) rfl (by rfl) ?_ hS ?_
    ·intro wy hy
     clear hy
     go_simp
    simp only [pA,pB,pC,pD]
    refine tv 1 ⟨some 69, _, _, _, _, none⟩ (.pointer (some ⟨p, 0, none⟩)) rfl (by rfl) ?_ hS ?_
    ·intro wy hy
     clear hy
     go_simp
    simp only [pA,pB,pC,pD]
    refine tv 2 ⟨some 70, _, _, _, _, none⟩ (.pointer (some ⟨p, 0, none⟩)) rfl (by rfl) ?_ hS ?_
    ·intro wy hy
     clear hy
     go_simp
    simp only [pA,pB,pC,pD]
    refine tv 3 ⟨some 71, _, _, _, _, none⟩ (.pointer (some ⟨p, 1, none⟩)) rfl (by rfl) ?_ hS ?_
    ·intro wy hy
     clear hy
     go_simp
    simp only [pA,pB,pC,pD]
    refine tv 4 ⟨some 72, _, _, _, _, none⟩ (.pointer (some ⟨p, 4, none⟩)) rfl (by rfl) ?_ hS ?_
    ·intro wy hy
     clear hy
     go_simp
    simp only [pA,pB,pC,pD]
    refine tv 5 ⟨some 73, _, _, _, _, none⟩ (.slice (some ⟨b3, o3, none⟩) x.copies.length c3) rfl (by rfl) ?_ hS ?_
    ·intro wy hy
     have h0 : wy.cell? ⟨p, 4, none⟩ = some (.slice (some ⟨b3, o3, none⟩) x.copies.length c3) := Blk.cell hy.1 rfl
     clear hy
     go_simp
    simp only [pA,pB,pC,pD]
    refine tu 6 ⟨some 74, _, _, _, _, none⟩ (.agg #[.string c.name, .string c.service, .int .i64 c.rank, .int .i64 c.born, .int .i64 c.room, .int .i64 c.hold, .string c.select, .slice ax c.likes.length cx, .int .i64 c.apart, .string c.near, .string c.fixed, .string v.at_]) rfl (yieldsIf_load_mid (by rfl) _ _ rfl pm (0) rfl [.string c.name, .string c.service, .int .i64 c.rank, .int .i64 c.born, .int .i64 c.room, .int .i64 c.hold, .string c.select, .slice ax c.likes.length cx, .int .i64 c.apart, .string c.near, .string c.fixed, .string v.at_] _ (fun _ h => h.2.rangeA) Tryz.underlying48 rfl isz_Cpy) hS ?_
    simp only [pA,pB,pC,pD]
    refine ru1 7 ⟨some 75, _, _, _, _, none⟩ rfl (fun KK hKK => ?_)
    go_simp
    refine (putCpy_any x.copies { c with at_ := v.at_ } b3 o3 ax c3 cx lo W0 _ hB7 HP.out.n3 HLK.out (by omega) HP.out.hc3 HP.out.hm3 (asc_mono2 HA.out _)).mono ?_
    rintro e w8 ⟨vv, ds, rfl, hO, hE, hb8⟩
    rw [HMV.out] at hO hE
    obtain ⟨d, q, rfl⟩ := own_form hO
    have HO := iH hO
    have HE := iH hE
    have hB8 := hB7.trans (hb8.mono hB7.size)
    have hBp8 := hBp7.trans (hb8.mono (Nat.le_of_lt hpd7))
    have HK8 := iH (HK7.out.below hb8 HK7.out.lt)
    have HM8 := iH (HM7.out.below hb8 HM7.out.lt)
    refine hKK.out _ _ ⟨HK8.out, HM8.out⟩ (fun hS => ?_)
    clear hKK KK hO hE hb8 hB7 hBp7 HK7 HM7
    refine wpAnyU_only (i := 8) (oi := ⟨some 76, _, _, _, _, none⟩) (v := .pointer (some ⟨p, 0, none⟩)) rfl (by kernel_rfl) (Or.inl ⟨by rfl, ?_⟩) hS ?_
    ·intro wy hy
     clear hy
     go_simp
    simp only [pA,pB,pC,pD]
    refine wpAnyU_only (i := 9) (oi := ⟨some 77, _, _, _, _, none⟩) (v := .pointer (some ⟨p, 1, none⟩)) rfl (by kernel_rfl) (Or.inl ⟨by rfl, ?_⟩) hS ?_
    ·intro wy hy
     clear hy
     go_simp
    simp only [pA,pB,pC,pD]
    refine tv 10 ⟨some 78, _, _, _, _, none⟩ (.pointer (some ⟨p, 4, none⟩)) rfl (by rfl) ?_ hS ?_
    ·intro wy hy
     clear hy
     go_simp
    simp only [pA,pB,pC,pD]
    have kz : w8.cell? ⟨p, 4, none⟩ = some (.slice (some ⟨b3, o3, none⟩) x.copies.length c3) := HK8.out.cell rfl
    have fz := HK8.out.frozen 4
    refine wpAnyU_ready (rs := [11]) (by kernel_rfl) (by simp) (AllReadyU.last (o := ⟨none, _, _, _, _, none⟩) rfl (fun KK hKK => ?_))
    go_simp
    clear kz fz
    have HK9 : Hid (Blk p (chV pf x.pack (.slice (some ⟨b1, o1, none⟩) x.berths.length c1) (.slice a2 x.services.length c2) ((.slice d (movL x.copies k v.at_).length q)) v am cm al cl) 76 (w8.setCell ⟨p, 4, none⟩ (.slice d (movL x.copies k v.at_).length q))) := HK8.out.set 4 _
    have HO9 := iH (kept_set (i := 4) HO.out hpd7 (.slice d (movL x.copies k v.at_).length q))
    have hBp9 := below_set (i := 4) hBp8 (.slice d (movL x.copies k v.at_).length q)
    have hB9 : Below W0.heap.size W0 (w8.setCell ⟨p, 4, none⟩ (.slice d (movL x.copies k v.at_).length q)) := hB8.setCell (p := ⟨p, 4, none⟩) HP.out.hp _
    refine hKK.out _ _ (wpAnyU_done (by kernel_rfl) ?_ _)
    clear hKK KK hS HO HK8 HM8 hB8 hBp8
    generalize w8.setCell ⟨p, 4, none⟩ (.slice d (movL x.copies k v.at_).length q) = w9 at *
    obtain ⟨d9, q9, e9, hsl⟩ := rowCpy HO9.out (Nat.le_trans HP.out.hlo (Nat.le_trans HP.out.hp (Nat.le_of_lt hpd7))) (HE.out.below LikC.holds hB9 nL) HSZ.out (by rw [mov_len]; unfold maxLen; omega)
    have e8 : d = d9 := by injection e9
    subst e8
    have HSL := iH hsl
    clear hsl HO9 HE e9
    go_wp2_with fail
    go_ret
    exact .inr ⟨{ x with copies := movL x.copies k v.at_ }, some ⟨b1, o1, none⟩, c1, d, q, HEV.out, rfl, rfl, rfl, hl1, (by show (movL x.copies k v.at_).length ≤ 61; rw [mov_len]; exact hl3), HK9.out, HP.out.n1.below BrtC.holds hB9 nL, HSL.out, hBp9⟩
   | none =>
    have hat : v.at_ = noText := by
     rcases hor with h | h
     ·exact h
     ·cases h
    have ht := bts_eq hat
    have ht0 : v.at_.toList.isEmpty = true := by rw [hat, ByteArray.toList_eq]; rfl
    clear hor hat
    simp only [Option.isSome_none]
    go_upto_region 5 with fail
    clear ht ht0
    have hza : Blk wn.heap.size #[.string ⟨#[]⟩, .string ⟨#[]⟩, .int .i64 0, .int .i64 0, .int .i64 0, .int .i64 0, .string ⟨#[]⟩, .slice none 0 0, .int .i64 0, .string ⟨#[]⟩, .string ⟨#[]⟩, .string ⟨#[]⟩] 48 (wn.alloc (Obj.cells #[.string ⟨#[]⟩, .string ⟨#[]⟩, .int .i64 0, .int .i64 0, .int .i64 0, .int .i64 0, .string ⟨#[]⟩, .slice none 0 0, .int .i64 0, .string ⟨#[]⟩, .string ⟨#[]⟩, .string ⟨#[]⟩] 48)) := Blk.alloc _ _ _
    have HTS : Hid ((wn.alloc (Obj.cells #[.string ⟨#[]⟩, .string ⟨#[]⟩, .int .i64 0, .int .i64 0, .int .i64 0, .int .i64 0, .string ⟨#[]⟩, .slice none 0 0, .int .i64 0, .string ⟨#[]⟩, .string ⟨#[]⟩, .string ⟨#[]⟩] 48)).there wn.heap.size 0 12) := hza.there
    obtain ⟨w4, HW4⟩ : ∃ w4, Hid (w4 = (wn.alloc (Obj.cells #[.string ⟨#[]⟩, .string ⟨#[]⟩, .int .i64 0, .int .i64 0, .int .i64 0, .int .i64 0, .string ⟨#[]⟩, .slice none 0 0, .int .i64 0, .string ⟨#[]⟩, .string ⟨#[]⟩, .string ⟨#[]⟩] 48)).setCells wn.heap.size 0 [.string c.name, .string c.service, .int .i64 c.rank, .int .i64 c.born, .int .i64 c.room, .int .i64 c.hold, .string c.select, .slice ax c.likes.length cx, .int .i64 c.apart, .string c.near, .string c.fixed, .string c.at_]) := ⟨_, rfl⟩
    have HM4 : Hid (Blk wn.heap.size #[.string c.name, .string c.service, .int .i64 c.rank, .int .i64 c.born, .int .i64 c.room, .int .i64 c.hold, .string c.select, .slice ax c.likes.length cx, .int .i64 c.apart, .string c.near, .string c.fixed, .string c.at_] 48 w4) := by
     show Blk _ _ _ _
     rw [HW4.out]
     exact hza.setAll #[.string c.name, .string c.service, .int .i64 c.rank, .int .i64 c.born, .int .i64 c.room, .int .i64 c.hold, .string c.select, .slice ax c.likes.length cx, .int .i64 c.apart, .string c.near, .string c.fixed, .string c.at_] rfl
    have hbx : Below wn.heap.size wn w4 := by
     rw [HW4.out]
     exact below_setCells nL _ _ _ ((Below.refl _ wn).alloc nL _)
    have hB4 : Below W0.heap.size W0 w4 := hB.trans (hbx.mono hB.size)
    have hBp4 := hBp.trans (hbx.mono (Nat.le_of_lt hpd))
    have HK4 := iH (HK.out.below hbx HK.out.lt)
    clear hza hbx hB hBp
    go_upto_region 6 with (first | (refine wpList_load_mid rfl 48 _ rfl b3 (o3 + k * 12) (by first | rfl | (simp [go_sem]; done)) [.string c.name, .string c.service, .int .i64 c.rank, .int .i64 c.born, .int .i64 c.room, .int .i64 c.hold, .string c.select, .slice ax c.likes.length cx, .int .i64 c.apart, .string c.near, .string c.fixed, .string c.at_] _ HRC.out Tryz.underlying48 rfl isz_Cpy ?_) | (refine wpList_store_to rfl 48 _ _ rfl wn.heap.size 0 #[.string c.name, .string c.service, .int .i64 c.rank, .int .i64 c.born, .int .i64 c.room, .int .i64 c.hold, .string c.select, .slice ax c.likes.length cx, .int .i64 c.apart, .string c.near, .string c.fixed, .string c.at_] rfl rfl HTS.out isz_Cpy (by simp [Value.oneCell']) w4 HW4.out ?_))
    clear HTS HW4 HRC k25 k4 HK
    obtain ⟨pm, hpm⟩ : ∃ pm, pm = wn.heap.size := ⟨_, rfl⟩
    rw [← hpm] at HM4 ⊢
    have hpp : p < pm := by omega
    clear hpm
    have k25 : w4.cell? ⟨p, 25, none⟩ = some (.string v.at_) := HK4.out.cell rfl
    have k11 : w4.cell? ⟨pm, 11, none⟩ = some (.string c.at_) := HM4.out.cell rfl
    have f11 := HM4.out.frozen 11
    go_upto_region 7 with fail
    clear k25 k11 f11
    have HM6 : Hid (Blk pm #[.string c.name, .string c.service, .int .i64 c.rank, .int .i64 c.born, .int .i64 c.room, .int .i64 c.hold, .string c.select, .slice ax c.likes.length cx, .int .i64 c.apart, .string c.near, .string c.fixed, .string v.at_] 48 (w4.setCell ⟨pm, 11, none⟩ (.string v.at_))) := HM4.out.set 11 _
    have HK6 := iH (HK4.out.other (a := ⟨pm, 11, none⟩) (show p ≠ pm by omega) (.string v.at_))
    have hB6 : Below W0.heap.size W0 (w4.setCell ⟨pm, 11, none⟩ (.string v.at_)) := hB4.setCell (p := ⟨pm, 11, none⟩) (by show W0.heap.size ≤ pm; have h9 := HP.out.hp; omega) _
    have hBp6 : Below p w (w4.setCell ⟨pm, 11, none⟩ (.string v.at_)) := hBp4.setCell (p := ⟨pm, 11, none⟩) (by show p ≤ pm; omega) _
    clear HM4 HK4 hB4 hBp4
    generalize w4.setCell ⟨pm, 11, none⟩ (.string v.at_) = w6 at *
    refine wp_region_until (S := fun wy => Blk p (chV pf x.pack (.slice (some ⟨b1, o1, none⟩) x.berths.length c1) (.slice a2 x.services.length c2) (.slice (some ⟨b3, o3, none⟩) x.copies.length c3) v am cm al cl) 76 wy ∧ Blk pm #[.string c.name, .string c.service, .int .i64 c.rank, .int .i64 c.born, .int .i64 c.room, .int .i64 c.hold, .string c.select, .slice ax c.likes.length cx, .int .i64 c.apart, .string c.near, .string c.fixed, .string v.at_] 48 wy) 11 (by kernel_rfl) ⟨HK6.out.drew, HM6.out.drew⟩ (fun hS => ?_)
    have HK7 := iH HK6.out.drew
    have HM7 := iH HM6.out.drew
    have hB7 := hB6.drew
    have hBp7 := hBp6.drew
    have hpd7 : p < w6.drew.heap.size := HK7.out.lt
    clear HK6 HM6 hB6 hBp6
    generalize w6.drew = w7 at *
    refine tv 0 ⟨some 68, _, _, _, _, none⟩ (.pointer (some ⟨p, 0, none⟩)) rfl (by rfl) ?_ hS ?_
    ·intro wy hy
     clear hy
     go_simp
    simp only [pA,pB,pC,pD]
    refine tv 1 ⟨some 69, _, _, _, _, none⟩ (.pointer (some ⟨p, 0, none⟩)) rfl (by rfl) ?_ hS ?_
    ·intro wy hy
     clear hy
     go_simp
    simp only [pA,pB,pC,pD]
    refine tv 2 ⟨some 70, _, _, _, _, none⟩ (.pointer (some ⟨p, 0, none⟩)) rfl (by rfl) ?_ hS ?_
    ·intro wy hy
     clear hy
     go_simp
    simp only [pA,pB,pC,pD]
    refine tv 3 ⟨some 71, _, _, _, _, none⟩ (.pointer (some ⟨p, 1, none⟩)) rfl (by rfl) ?_ hS ?_
    ·intro wy hy
     clear hy
     go_simp
    simp only [pA,pB,pC,pD]
    refine tv 4 ⟨some 72, _, _, _, _, none⟩ (.pointer (some ⟨p, 4, none⟩)) rfl (by rfl) ?_ hS ?_
    ·intro wy hy
     clear hy
     go_simp
    simp only [pA,pB,pC,pD]
    refine tv 5 ⟨some 73, _, _, _, _, none⟩ (.slice (some ⟨b3, o3, none⟩) x.copies.length c3) rfl (by rfl) ?_ hS ?_
    ·intro wy hy
     have h0 : wy.cell? ⟨p, 4, none⟩ = some (.slice (some ⟨b3, o3, none⟩) x.copies.length c3) := Blk.cell hy.1 rfl
     clear hy
     go_simp
    simp only [pA,pB,pC,pD]
    refine tu 6 ⟨some 74, _, _, _, _, none⟩ (.agg #[.string c.name, .string c.service, .int .i64 c.rank, .int .i64 c.born, .int .i64 c.room, .int .i64 c.hold, .string c.select, .slice ax c.likes.length cx, .int .i64 c.apart, .string c.near, .string c.fixed, .string v.at_]) rfl (yieldsIf_load_mid (by rfl) _ _ rfl pm (0) rfl [.string c.name, .string c.service, .int .i64 c.rank, .int .i64 c.born, .int .i64 c.room, .int .i64 c.hold, .string c.select, .slice ax c.likes.length cx, .int .i64 c.apart, .string c.near, .string c.fixed, .string v.at_] _ (fun _ h => h.2.rangeA) Tryz.underlying48 rfl isz_Cpy) hS ?_
    simp only [pA,pB,pC,pD]
    refine ru1 7 ⟨some 75, _, _, _, _, none⟩ rfl (fun KK hKK => ?_)
    go_simp
    refine (putCpy_any x.copies { c with at_ := v.at_ } b3 o3 ax c3 cx lo W0 _ hB7 HP.out.n3 HLK.out (by omega) HP.out.hc3 HP.out.hm3 (asc_mono2 HA.out _)).mono ?_
    rintro e w8 ⟨vv, ds, rfl, hO, hE, hb8⟩
    rw [HMV.out] at hO hE
    obtain ⟨d, q, rfl⟩ := own_form hO
    have HO := iH hO
    have HE := iH hE
    have hB8 := hB7.trans (hb8.mono hB7.size)
    have hBp8 := hBp7.trans (hb8.mono (Nat.le_of_lt hpd7))
    have HK8 := iH (HK7.out.below hb8 HK7.out.lt)
    have HM8 := iH (HM7.out.below hb8 HM7.out.lt)
    refine hKK.out _ _ ⟨HK8.out, HM8.out⟩ (fun hS => ?_)
    clear hKK KK hO hE hb8 hB7 hBp7 HK7 HM7
    refine wpAnyU_only (i := 8) (oi := ⟨some 76, _, _, _, _, none⟩) (v := .pointer (some ⟨p, 0, none⟩)) rfl (by kernel_rfl) (Or.inl ⟨by rfl, ?_⟩) hS ?_
    ·intro wy hy
     clear hy
     go_simp
    simp only [pA,pB,pC,pD]
    refine wpAnyU_only (i := 9) (oi := ⟨some 77, _, _, _, _, none⟩) (v := .pointer (some ⟨p, 1, none⟩)) rfl (by kernel_rfl) (Or.inl ⟨by rfl, ?_⟩) hS ?_
    ·intro wy hy
     clear hy
     go_simp
    simp only [pA,pB,pC,pD]
    refine tv 10 ⟨some 78, _, _, _, _, none⟩ (.pointer (some ⟨p, 4, none⟩)) rfl (by rfl) ?_ hS ?_
    ·intro wy hy
     clear hy
     go_simp
    simp only [pA,pB,pC,pD]
    have kz : w8.cell? ⟨p, 4, none⟩ = some (.slice (some ⟨b3, o3, none⟩) x.copies.length c3) := HK8.out.cell rfl
    have fz := HK8.out.frozen 4
    refine wpAnyU_ready (rs := [11]) (by kernel_rfl) (by simp) (AllReadyU.last (o := ⟨none, _, _, _, _, none⟩) rfl (fun KK hKK => ?_))
    go_simp
    clear kz fz
    have HK9 : Hid (Blk p (chV pf x.pack (.slice (some ⟨b1, o1, none⟩) x.berths.length c1) (.slice a2 x.services.length c2) ((.slice d (movL x.copies k v.at_).length q)) v am cm al cl) 76 (w8.setCell ⟨p, 4, none⟩ (.slice d (movL x.copies k v.at_).length q))) := HK8.out.set 4 _
    have HO9 := iH (kept_set (i := 4) HO.out hpd7 (.slice d (movL x.copies k v.at_).length q))
    have hBp9 := below_set (i := 4) hBp8 (.slice d (movL x.copies k v.at_).length q)
    have hB9 : Below W0.heap.size W0 (w8.setCell ⟨p, 4, none⟩ (.slice d (movL x.copies k v.at_).length q)) := hB8.setCell (p := ⟨p, 4, none⟩) HP.out.hp _
    refine hKK.out _ _ (wpAnyU_done (by kernel_rfl) ?_ _)
    clear hKK KK hS HO HK8 HM8 hB8 hBp8
    generalize w8.setCell ⟨p, 4, none⟩ (.slice d (movL x.copies k v.at_).length q) = w9 at *
    obtain ⟨d9, q9, e9, hsl⟩ := rowCpy HO9.out (Nat.le_trans HP.out.hlo (Nat.le_trans HP.out.hp (Nat.le_of_lt hpd7))) (HE.out.below LikC.holds hB9 nL) HSZ.out (by rw [mov_len]; unfold maxLen; omega)
    have e8 : d = d9 := by injection e9
    subst e8
    have HSL := iH hsl
    clear hsl HO9 HE e9
    go_wp2_with fail
    go_ret
    exact .inr ⟨{ x with copies := movL x.copies k v.at_ }, some ⟨b1, o1, none⟩, c1, d, q, HEV.out, rfl, rfl, rfl, hl1, (by show (movL x.copies k v.at_).length ≤ 61; rw [mov_len]; exact hl3), HK9.out, HP.out.n1.below BrtC.holds hB9 nL, HSL.out, hBp9⟩

end Go.Proofs.YtihnjndnkgnmaaaGreat

namespace Go.Proofs.YtihnjndnkgnmaaaGreat
open Go.RowKit Go.WideMaps Go.Maps

theorem isz_six : (Tryz.prog.info? 110).map (·.size) = some 6 := by kernel_rfl

set_option maxHeartbeats 4000000 in
set_option maxRecDepth 100000 in
theorem acts_any (p : Nat) (w : World) : Calls Tryz.prog 64 #[.pointer (some ⟨p, 0, none⟩)] w fun e w' => e = .returned (.agg #[.nilFunc, .func (.func 97) #[.pointer (some ⟨p, 0, none⟩)] #[], .func (.func 98) #[.pointer (some ⟨p, 0, none⟩)] #[], .func (.func 99) #[.pointer (some ⟨p, 0, none⟩)] #[], .func (.func 100) #[.pointer (some ⟨p, 0, none⟩)] #[], .func (.func 101) #[.pointer (some ⟨p, 0, none⟩)] #[]]) ∧ Below w.heap.size w w' := by
 have hza : Blk w.heap.size #[.nilFunc, .nilFunc, .nilFunc, .nilFunc, .nilFunc, .nilFunc] 110 (w.alloc (Obj.cells #[.nilFunc, .nilFunc, .nilFunc, .nilFunc, .nilFunc, .nilFunc] 110)) := Blk.alloc _ _ _
 have HTS : Hid ((w.alloc (Obj.cells #[.nilFunc, .nilFunc, .nilFunc, .nilFunc, .nilFunc, .nilFunc] 110)).there w.heap.size 0 6) := hza.there
 obtain ⟨w5, HW5⟩ : ∃ w5, Hid (w5 = (w.alloc (Obj.cells #[.nilFunc, .nilFunc, .nilFunc, .nilFunc, .nilFunc, .nilFunc] 110)).setCells w.heap.size 0 [.nilFunc, .func (.func 97) #[.pointer (some ⟨p, 0, none⟩)] #[], .func (.func 98) #[.pointer (some ⟨p, 0, none⟩)] #[], .func (.func 99) #[.pointer (some ⟨p, 0, none⟩)] #[], .func (.func 100) #[.pointer (some ⟨p, 0, none⟩)] #[], .func (.func 101) #[.pointer (some ⟨p, 0, none⟩)] #[]]) := ⟨_, rfl⟩
 have HK5 : Hid (Blk w.heap.size #[.nilFunc, .func (.func 97) #[.pointer (some ⟨p, 0, none⟩)] #[], .func (.func 98) #[.pointer (some ⟨p, 0, none⟩)] #[], .func (.func 99) #[.pointer (some ⟨p, 0, none⟩)] #[], .func (.func 100) #[.pointer (some ⟨p, 0, none⟩)] #[], .func (.func 101) #[.pointer (some ⟨p, 0, none⟩)] #[]] 110 w5) := by
  show Blk _ _ _ _
  rw [HW5.out]
  exact hza.setAll #[.nilFunc, .func (.func 97) #[.pointer (some ⟨p, 0, none⟩)] #[], .func (.func 98) #[.pointer (some ⟨p, 0, none⟩)] #[], .func (.func 99) #[.pointer (some ⟨p, 0, none⟩)] #[], .func (.func 100) #[.pointer (some ⟨p, 0, none⟩)] #[], .func (.func 101) #[.pointer (some ⟨p, 0, none⟩)] #[]] rfl
 have hbx : Below w.heap.size w w5 := by
  rw [HW5.out]
  exact below_setCells nL _ _ _ ((Below.refl _ w).alloc nL _)
 clear hza
 go_enter Tryz.func64, Tryz.ntmps64
 go_wp2_with (refine wpList_store_to rfl 110 _ _ rfl w.heap.size 0 #[.nilFunc, .func (.func 97) #[.pointer (some ⟨p, 0, none⟩)] #[], .func (.func 98) #[.pointer (some ⟨p, 0, none⟩)] #[], .func (.func 99) #[.pointer (some ⟨p, 0, none⟩)] #[], .func (.func 100) #[.pointer (some ⟨p, 0, none⟩)] #[], .func (.func 101) #[.pointer (some ⟨p, 0, none⟩)] #[]] rfl rfl HTS.out isz_six (by simp [Value.oneCell']) w5 HW5.out ?_)
 exact bodyPost_ret (results_cell_mid rfl _ _ w.heap.size [.nilFunc, .func (.func 97) #[.pointer (some ⟨p, 0, none⟩)] #[], .func (.func 98) #[.pointer (some ⟨p, 0, none⟩)] #[], .func (.func 99) #[.pointer (some ⟨p, 0, none⟩)] #[], .func (.func 100) #[.pointer (some ⟨p, 0, none⟩)] #[], .func (.func 101) #[.pointer (some ⟨p, 0, none⟩)] #[]] _ rfl HK5.out.rangeA Tryz.underlying110 rfl isz_six) rfl ⟨rfl, hbx⟩

def HpM (x : Flt) (v : Evt) (pf p : Nat) (a2 : Option Addr) (c2 : Nat) (am : Option Addr) (cm : Nat) (al : Option Addr) (cl lo : Nat) (w : World) (e : Ending) (w' : World) : Prop :=
 (∃ code : Int, ¬ code = 0 ∧ hapR x v = (noFlt, code) ∧ e = .returned (.int .i64 code) ∧ Below p w w') ∨ ∃ (y : Flt) (d1 : Option Addr) (q1 : Nat) (d3 : Option Addr) (q3 : Nat), hapR x v = (y, 0) ∧ validI y = true ∧ e = .returned (.int .i64 0) ∧ y.pack = x.pack ∧ y.services = x.services ∧ Blk p (chV pf x.pack (.slice d1 y.berths.length q1) (.slice a2 x.services.length c2) (.slice d3 y.copies.length q3) v am cm al cl) 76 w' ∧ SliceC BrtC 6 lo w' d1 y.berths ∧ SliceC CpyC 12 lo w' d3 y.copies ∧ Below p w w'

theorem AcPre.drew {x : Flt} {v : Evt} {pf p m1 m2 m3 m4 b1 o1 c1 : Nat} {a2 : Option Addr} {c2 b3 o3 c3 : Nat} {am : Option Addr} {cm : Nat} {al : Option Addr} {cl lo : Nat} {W0 w : World} (H : AcPre x v pf p m1 m2 m3 m4 b1 o1 c1 a2 c2 b3 o3 c3 am cm al cl lo W0 w) : AcPre x v pf p m1 m2 m3 m4 b1 o1 c1 a2 c2 b3 o3 c3 am cm al cl lo W0 w.drew :=
 ⟨H.n1, H.n3, H.nm, H.nl, H.hlo, H.hc1, H.hm1, H.hc3, H.hm3, H.z1, H.z3, H.zn, H.za, H.hv, H.hB.drew, H.hp, H.hK.drew, H.hF.below (Below.refl _ w).drew⟩
theorem AcPre.below {x : Flt} {v : Evt} {pf p m1 m2 m3 m4 b1 o1 c1 : Nat} {a2 : Option Addr} {c2 b3 o3 c3 : Nat} {am : Option Addr} {cm : Nat} {al : Option Addr} {cl lo : Nat} {W0 w : World} {w' : World} (H : AcPre x v pf p m1 m2 m3 m4 b1 o1 c1 a2 c2 b3 o3 c3 am cm al cl lo W0 w) (hb : Below w.heap.size w w') : AcPre x v pf p m1 m2 m3 m4 b1 o1 c1 a2 c2 b3 o3 c3 am cm al cl lo W0 w' :=
 ⟨H.n1, H.n3, H.nm, H.nl, H.hlo, H.hc1, H.hm1, H.hc3, H.hm3, H.z1, H.z3, H.zn, H.za, H.hv, H.hB.trans (hb.mono H.hB.size), H.hp, H.hK.below hb H.hK.lt, H.hF.below hb⟩

set_option maxHeartbeats 8000000 in
set_option maxRecDepth 100000 in
theorem happenI_any (x : Flt) (v : Evt) (pf p m1 m2 m3 m4 b1 o1 c1 : Nat) (a2 : Option Addr) (c2 b3 o3 c3 : Nat) (am : Option Addr) (cm : Nat) (al : Option Addr) (cl lo : Nat) (W0 w : World) (H : AcPre x v pf p m1 m2 m3 m4 b1 o1 c1 a2 c2 b3 o3 c3 am cm al cl lo W0 w) (n2 : SliceC SvcC 2 lo W0 a2 x.services) :
  Calls Tryz.prog 29 #[.pointer (some ⟨p, 0, none⟩)] w fun e w' => HpM x v pf p a2 c2 am cm al cl lo w e w' := by
 have HP := iH H
 have HV := iH H.hv
 have HN2 := iH n2
 have k5 : w.cell? ⟨p, 5, none⟩ = some (.int .i64 v.kind) := H.hK.cell rfl
 have hls : x.services.length ≤ 30 := (valid_parts H.hv).1
 have hpd := H.hK.lt
 clear H n2
 go_enter Tryz.func29, Tryz.ntmps29
 by_cases hk : ¬ (1 ≤ v.kind ∧ v.kind ≤ 5)
 ·have HC : Hid (inR v.kind 1 5 = false) := by
   show inR v.kind 1 5 = false
   unfold inR
   rw [Bool.eq_false_iff]
   intro h
   simp at h
   exact hk h
  have HR := iH (hapR_4 HV.out hk)
  clear hk
  go_wp2_with fail
  refine (isIn_any _ _ _ _).mono ?_
  rintro e w9 ⟨rfl, hb9⟩
  rw [HC.out]
  go_wp2_with fail
  go_ret
  exact .inl ⟨4, by decide, HR.out, rfl, hb9.mono (Nat.le_of_lt hpd)⟩
 have hk' := Classical.not_not.1 hk
 clear hk
 have HC : Hid (inR v.kind 1 5 = true) := by
  show inR v.kind 1 5 = true
  unfold inR
  simp
  exact hk'
 have HKK := iH hk'
 go_wp2_with fail
 refine (isIn_any _ _ _ _).mono ?_
 rintro e w0 ⟨rfl, hb0⟩
 rw [HC.out]
 replace k5 : w0.cell? ⟨p, 5, none⟩ = some (.int .i64 v.kind) := (hb0.cell (p := ⟨p, 5, none⟩) hpd).trans k5
 replace HP := iH (HP.out.below hb0)
 have hBp0 : Below p w w0 := hb0.mono (Nat.le_of_lt hpd)
 have hpd0 := HP.out.hK.lt
 clear HC hb0 hpd
 go_upto_region 3 with fail
 refine wp_region_held_drew (S := fun wy => wy.cell? ⟨p, 5, none⟩ = some (.int .i64 v.kind)) (by kernel_rfl) k5 (fun hS => ?_)
 have HP1 := iH HP.out.drew
 have hBp1 : Below p w w0.drew := hBp0.drew
 have hpd1 : p < w0.drew.heap.size := hpd0
 clear HP k5 hpd0 hBp0
 generalize w0.drew = w1 at *
 refine tz 0 11 (.pointer (some ⟨p, 0, none⟩)) rfl hS ?_
 simp only [pA,pB,pC,pD]
 refine tz 2 13 (.pointer (some ⟨p, 0, none⟩)) rfl hS ?_
 simp only [pA,pB,pC,pD]
 refine tz 3 14 (.pointer (some ⟨p, 0, none⟩)) rfl hS ?_
 simp only [pA,pB,pC,pD]
 refine tz 4 15 (.pointer (some ⟨p, 5, none⟩)) rfl hS ?_
 simp only [pA,pB,pC,pD]
 refine tz 5 16 (.pointer (some ⟨p, 5, none⟩)) rfl hS ?_
 simp only [pA,pB,pC,pD]
 refine ty 6 ⟨some 17, _, _, _, _, none⟩ (.int .i64 v.kind) rfl (by rfl) ?_ hS ?_
 ·intro wy hy
  have h0 := id hy
  clear hy
  go_simp
 simp only [pA,pB,pC,pD]
 refine rd1 1 ⟨some 12, _, _, _, _, none⟩ rfl (fun K hK => ?_)
 go_simp
 refine (acts_any p _).mono ?_
 rintro e w2 ⟨rfl, hb2⟩
 have HP2 := iH (HP1.out.below hb2)
 have hBp2 := hBp1.trans (hb2.mono (Nat.le_of_lt hpd1))
 have hpd2 := HP2.out.hK.lt
 refine hK.out _ _ ((hb2.cell (p := ⟨p, 5, none⟩) hpd1).trans hS) (fun hS => ?_)
 clear hK K
 clear hb2 hBp1 HP1
 have hkk : v.kind = 1 ∨ v.kind = 2 ∨ v.kind = 3 ∨ v.kind = 4 ∨ v.kind = 5 := by omega
 rcases hkk with hkd | hkd | hkd | hkd | hkd
 ·skip
  refine ty 7 ⟨some 18, _, _, _, _, none⟩ (.func (.func 97) #[.pointer (some ⟨p, 0, none⟩)] #[]) rfl (by rfl) ?_ hS ?_
  ·intro wy hy
   rw [hkd]
   have hix : ∀ wy : World, (Instr.index 110 (.agg #[.nilFunc, .func (.func 97) #[.pointer (some ⟨p, 0, none⟩)] #[], .func (.func 98) #[.pointer (some ⟨p, 0, none⟩)] #[], .func (.func 99) #[.pointer (some ⟨p, 0, none⟩)] #[], .func (.func 100) #[.pointer (some ⟨p, 0, none⟩)] #[], .func (.func 101) #[.pointer (some ⟨p, 0, none⟩)] #[]]) (.int .i64 1)).run Tryz.prog wy = .ok (.func (.func 97) #[.pointer (some ⟨p, 0, none⟩)] #[]) wy := fun wy => by kernel_rfl
   clear hy
   go_simp
  simp only [pA,pB,pC,pD]
  have HKD := iH hkd
  clear hkd
  refine rd1 8 ⟨some 19, _, _, _, _, none⟩ rfl (fun K hK => ?_)
  go_simp
  refine (setBrt_any x v pf p m1 m2 m3 m4 b1 o1 c1 a2 c2 b3 o3 c3 am cm al cl lo W0 _ HP2.out HKD.out).mono ?_
  intro e w3 hres
  rcases hres with ⟨hev, rfl, hb3, h5⟩ | ⟨y, d1, q1, d3, q3, hev, rfl, hpk, hsv, hlb, hlc, hbk, hs1, hs3, hb3⟩
  ·have HR := iH (hapR_3 HV.out HKK.out hev)
   have hBp3 := hBp2.trans hb3
   refine hK.out _ _ h5 (fun hS => ?_)
   clear hK K hev hb3 h5 HP2 HN2
   refine tz 9 3 (.int .i64 3) rfl hS ?_
   simp only [pA,pB,pC,pD]
   refine td ?_
   clear hS
   go_wp2_with fail
   go_ret
   exact .inl ⟨3, by decide, HR.out, rfl, hBp3⟩
  ·have hBp3 := hBp2.trans hb3
   have hB3 : Below W0.heap.size W0 w3 := HP2.out.hB.trans (hb3.mono HP2.out.hp)
   have HBK := iH hbk
   have HS1 := iH hs1
   have HS3 := iH hs3
   have HEV := iH hev
   refine hK.out _ _ (hbk.cell rfl) (fun hS => ?_)
   clear hK K hev hb3 hbk hs1 hs3
   refine tz 9 3 (.int .i64 0) rfl hS ?_
   simp only [pA,pB,pC,pD]
   refine td ?_
   clear hS
   have HS2 : Hid (SliceC SvcC 2 lo w3 a2 y.services) := by
    show SliceC _ _ _ _ _ _
    rw [hsv]
    exact HN2.out.below SvcC.holds hB3 nL
   have CT := iH (implValid_any y d1 q1 a2 c2 d3 q3 lo w3 HS1.out HS2.out HS3.out (by omega) (by rw [hsv]; omega) (by omega))
   rw [hpk, hsv] at CT
   have HPS := iH (And.intro hpk hsv)
   clear hpk hsv HS2
   go_wp2_with (refine wpList_load_mid rfl 41 _ rfl p 1 rfl [.bool x.pack, .slice d1 y.berths.length q1, .slice a2 x.services.length c2, .slice d3 y.copies.length q3] _ (chF HBK.out) Tryz.underlying41 rfl isz_Flt ?_)
   refine CT.out.mono ?_
   rintro e w4 ⟨rfl, hb4⟩
   have hp3 : p < w3.heap.size := HBK.out.lt
   have hBp4 := hBp3.trans (hb4.mono (Nat.le_of_lt hp3))
   have HBK4 := iH (HBK.out.below hb4 hp3)
   have HS14 := iH (HS1.out.below BrtC.holds hb4 nL)
   have HS34 := iH (HS3.out.below CpyC.holds hb4 nL)
   clear CT hb4 HBK HS1 HS3 hBp3 hB3
   cases hvy : validI y with
   | false =>
    have HR := iH (hapR_2 HV.out HKK.out HEV.out hvy)
    clear hvy
    go_wp2_with fail
    go_ret
    exact .inl ⟨2, by decide, HR.out, rfl, hBp4⟩
   | true =>
    have HR := iH (hapR_0 HV.out HKK.out HEV.out hvy)
    have HVY := iH hvy
    clear hvy
    go_wp2_with fail
    go_ret
    exact .inr ⟨y, d1, q1, d3, q3, HR.out, HVY.out, rfl, HPS.out.1, HPS.out.2, HBK4.out, HS14.out, HS34.out, hBp4⟩
 ·skip
  refine ty 7 ⟨some 18, _, _, _, _, none⟩ (.func (.func 98) #[.pointer (some ⟨p, 0, none⟩)] #[]) rfl (by rfl) ?_ hS ?_
  ·intro wy hy
   rw [hkd]
   have hix : ∀ wy : World, (Instr.index 110 (.agg #[.nilFunc, .func (.func 97) #[.pointer (some ⟨p, 0, none⟩)] #[], .func (.func 98) #[.pointer (some ⟨p, 0, none⟩)] #[], .func (.func 99) #[.pointer (some ⟨p, 0, none⟩)] #[], .func (.func 100) #[.pointer (some ⟨p, 0, none⟩)] #[], .func (.func 101) #[.pointer (some ⟨p, 0, none⟩)] #[]]) (.int .i64 2)).run Tryz.prog wy = .ok (.func (.func 98) #[.pointer (some ⟨p, 0, none⟩)] #[]) wy := fun wy => by kernel_rfl
   clear hy
   go_simp
  simp only [pA,pB,pC,pD]
  have HKD := iH hkd
  clear hkd
  refine rd1 8 ⟨some 19, _, _, _, _, none⟩ rfl (fun K hK => ?_)
  go_simp
  refine (dropBrt_any x v pf p m1 m2 m3 m4 b1 o1 c1 a2 c2 b3 o3 c3 am cm al cl lo W0 _ HP2.out HKD.out).mono ?_
  intro e w3 hres
  rcases hres with ⟨hev, rfl, hb3, h5⟩ | ⟨y, d1, q1, d3, q3, hev, rfl, hpk, hsv, hlb, hlc, hbk, hs1, hs3, hb3⟩
  ·have HR := iH (hapR_3 HV.out HKK.out hev)
   have hBp3 := hBp2.trans hb3
   refine hK.out _ _ h5 (fun hS => ?_)
   clear hK K hev hb3 h5 HP2 HN2
   refine tz 9 3 (.int .i64 3) rfl hS ?_
   simp only [pA,pB,pC,pD]
   refine td ?_
   clear hS
   go_wp2_with fail
   go_ret
   exact .inl ⟨3, by decide, HR.out, rfl, hBp3⟩
  ·have hBp3 := hBp2.trans hb3
   have hB3 : Below W0.heap.size W0 w3 := HP2.out.hB.trans (hb3.mono HP2.out.hp)
   have HBK := iH hbk
   have HS1 := iH hs1
   have HS3 := iH hs3
   have HEV := iH hev
   refine hK.out _ _ (hbk.cell rfl) (fun hS => ?_)
   clear hK K hev hb3 hbk hs1 hs3
   refine tz 9 3 (.int .i64 0) rfl hS ?_
   simp only [pA,pB,pC,pD]
   refine td ?_
   clear hS
   have HS2 : Hid (SliceC SvcC 2 lo w3 a2 y.services) := by
    show SliceC _ _ _ _ _ _
    rw [hsv]
    exact HN2.out.below SvcC.holds hB3 nL
   have CT := iH (implValid_any y d1 q1 a2 c2 d3 q3 lo w3 HS1.out HS2.out HS3.out (by omega) (by rw [hsv]; omega) (by omega))
   rw [hpk, hsv] at CT
   have HPS := iH (And.intro hpk hsv)
   clear hpk hsv HS2
   go_wp2_with (refine wpList_load_mid rfl 41 _ rfl p 1 rfl [.bool x.pack, .slice d1 y.berths.length q1, .slice a2 x.services.length c2, .slice d3 y.copies.length q3] _ (chF HBK.out) Tryz.underlying41 rfl isz_Flt ?_)
   refine CT.out.mono ?_
   rintro e w4 ⟨rfl, hb4⟩
   have hp3 : p < w3.heap.size := HBK.out.lt
   have hBp4 := hBp3.trans (hb4.mono (Nat.le_of_lt hp3))
   have HBK4 := iH (HBK.out.below hb4 hp3)
   have HS14 := iH (HS1.out.below BrtC.holds hb4 nL)
   have HS34 := iH (HS3.out.below CpyC.holds hb4 nL)
   clear CT hb4 HBK HS1 HS3 hBp3 hB3
   cases hvy : validI y with
   | false =>
    have HR := iH (hapR_2 HV.out HKK.out HEV.out hvy)
    clear hvy
    go_wp2_with fail
    go_ret
    exact .inl ⟨2, by decide, HR.out, rfl, hBp4⟩
   | true =>
    have HR := iH (hapR_0 HV.out HKK.out HEV.out hvy)
    have HVY := iH hvy
    clear hvy
    go_wp2_with fail
    go_ret
    exact .inr ⟨y, d1, q1, d3, q3, HR.out, HVY.out, rfl, HPS.out.1, HPS.out.2, HBK4.out, HS14.out, HS34.out, hBp4⟩
 ·skip
  refine ty 7 ⟨some 18, _, _, _, _, none⟩ (.func (.func 99) #[.pointer (some ⟨p, 0, none⟩)] #[]) rfl (by rfl) ?_ hS ?_
  ·intro wy hy
   rw [hkd]
   have hix : ∀ wy : World, (Instr.index 110 (.agg #[.nilFunc, .func (.func 97) #[.pointer (some ⟨p, 0, none⟩)] #[], .func (.func 98) #[.pointer (some ⟨p, 0, none⟩)] #[], .func (.func 99) #[.pointer (some ⟨p, 0, none⟩)] #[], .func (.func 100) #[.pointer (some ⟨p, 0, none⟩)] #[], .func (.func 101) #[.pointer (some ⟨p, 0, none⟩)] #[]]) (.int .i64 3)).run Tryz.prog wy = .ok (.func (.func 99) #[.pointer (some ⟨p, 0, none⟩)] #[]) wy := fun wy => by kernel_rfl
   clear hy
   go_simp
  simp only [pA,pB,pC,pD]
  have HKD := iH hkd
  clear hkd
  refine rd1 8 ⟨some 19, _, _, _, _, none⟩ rfl (fun K hK => ?_)
  go_simp
  refine (setCpy_any x v pf p m1 m2 m3 m4 b1 o1 c1 a2 c2 b3 o3 c3 am cm al cl lo W0 _ HP2.out HKD.out).mono ?_
  intro e w3 hres
  rcases hres with ⟨hev, rfl, hb3, h5⟩ | ⟨y, d1, q1, d3, q3, hev, rfl, hpk, hsv, hlb, hlc, hbk, hs1, hs3, hb3⟩
  ·have HR := iH (hapR_3 HV.out HKK.out hev)
   have hBp3 := hBp2.trans hb3
   refine hK.out _ _ h5 (fun hS => ?_)
   clear hK K hev hb3 h5 HP2 HN2
   refine tz 9 3 (.int .i64 3) rfl hS ?_
   simp only [pA,pB,pC,pD]
   refine td ?_
   clear hS
   go_wp2_with fail
   go_ret
   exact .inl ⟨3, by decide, HR.out, rfl, hBp3⟩
  ·have hBp3 := hBp2.trans hb3
   have hB3 : Below W0.heap.size W0 w3 := HP2.out.hB.trans (hb3.mono HP2.out.hp)
   have HBK := iH hbk
   have HS1 := iH hs1
   have HS3 := iH hs3
   have HEV := iH hev
   refine hK.out _ _ (hbk.cell rfl) (fun hS => ?_)
   clear hK K hev hb3 hbk hs1 hs3
   refine tz 9 3 (.int .i64 0) rfl hS ?_
   simp only [pA,pB,pC,pD]
   refine td ?_
   clear hS
   have HS2 : Hid (SliceC SvcC 2 lo w3 a2 y.services) := by
    show SliceC _ _ _ _ _ _
    rw [hsv]
    exact HN2.out.below SvcC.holds hB3 nL
   have CT := iH (implValid_any y d1 q1 a2 c2 d3 q3 lo w3 HS1.out HS2.out HS3.out (by omega) (by rw [hsv]; omega) (by omega))
   rw [hpk, hsv] at CT
   have HPS := iH (And.intro hpk hsv)
   clear hpk hsv HS2
   go_wp2_with (refine wpList_load_mid rfl 41 _ rfl p 1 rfl [.bool x.pack, .slice d1 y.berths.length q1, .slice a2 x.services.length c2, .slice d3 y.copies.length q3] _ (chF HBK.out) Tryz.underlying41 rfl isz_Flt ?_)
   refine CT.out.mono ?_
   rintro e w4 ⟨rfl, hb4⟩
   have hp3 : p < w3.heap.size := HBK.out.lt
   have hBp4 := hBp3.trans (hb4.mono (Nat.le_of_lt hp3))
   have HBK4 := iH (HBK.out.below hb4 hp3)
   have HS14 := iH (HS1.out.below BrtC.holds hb4 nL)
   have HS34 := iH (HS3.out.below CpyC.holds hb4 nL)
   clear CT hb4 HBK HS1 HS3 hBp3 hB3
   cases hvy : validI y with
   | false =>
    have HR := iH (hapR_2 HV.out HKK.out HEV.out hvy)
    clear hvy
    go_wp2_with fail
    go_ret
    exact .inl ⟨2, by decide, HR.out, rfl, hBp4⟩
   | true =>
    have HR := iH (hapR_0 HV.out HKK.out HEV.out hvy)
    have HVY := iH hvy
    clear hvy
    go_wp2_with fail
    go_ret
    exact .inr ⟨y, d1, q1, d3, q3, HR.out, HVY.out, rfl, HPS.out.1, HPS.out.2, HBK4.out, HS14.out, HS34.out, hBp4⟩
 ·skip
  refine ty 7 ⟨some 18, _, _, _, _, none⟩ (.func (.func 100) #[.pointer (some ⟨p, 0, none⟩)] #[]) rfl (by rfl) ?_ hS ?_
  ·intro wy hy
   rw [hkd]
   have hix : ∀ wy : World, (Instr.index 110 (.agg #[.nilFunc, .func (.func 97) #[.pointer (some ⟨p, 0, none⟩)] #[], .func (.func 98) #[.pointer (some ⟨p, 0, none⟩)] #[], .func (.func 99) #[.pointer (some ⟨p, 0, none⟩)] #[], .func (.func 100) #[.pointer (some ⟨p, 0, none⟩)] #[], .func (.func 101) #[.pointer (some ⟨p, 0, none⟩)] #[]]) (.int .i64 4)).run Tryz.prog wy = .ok (.func (.func 100) #[.pointer (some ⟨p, 0, none⟩)] #[]) wy := fun wy => by kernel_rfl
   clear hy
   go_simp
  simp only [pA,pB,pC,pD]
  have HKD := iH hkd
  clear hkd
  refine rd1 8 ⟨some 19, _, _, _, _, none⟩ rfl (fun K hK => ?_)
  go_simp
  refine (dropCpy_any x v pf p m1 m2 m3 m4 b1 o1 c1 a2 c2 b3 o3 c3 am cm al cl lo W0 _ HP2.out HKD.out).mono ?_
  intro e w3 hres
  rcases hres with ⟨hev, rfl, hb3, h5⟩ | ⟨y, d1, q1, d3, q3, hev, rfl, hpk, hsv, hlb, hlc, hbk, hs1, hs3, hb3⟩
  ·have HR := iH (hapR_3 HV.out HKK.out hev)
   have hBp3 := hBp2.trans hb3
   refine hK.out _ _ h5 (fun hS => ?_)
   clear hK K hev hb3 h5 HP2 HN2
   refine tz 9 3 (.int .i64 3) rfl hS ?_
   simp only [pA,pB,pC,pD]
   refine td ?_
   clear hS
   go_wp2_with fail
   go_ret
   exact .inl ⟨3, by decide, HR.out, rfl, hBp3⟩
  ·have hBp3 := hBp2.trans hb3
   have hB3 : Below W0.heap.size W0 w3 := HP2.out.hB.trans (hb3.mono HP2.out.hp)
   have HBK := iH hbk
   have HS1 := iH hs1
   have HS3 := iH hs3
   have HEV := iH hev
   refine hK.out _ _ (hbk.cell rfl) (fun hS => ?_)
   clear hK K hev hb3 hbk hs1 hs3
   refine tz 9 3 (.int .i64 0) rfl hS ?_
   simp only [pA,pB,pC,pD]
   refine td ?_
   clear hS
   have HS2 : Hid (SliceC SvcC 2 lo w3 a2 y.services) := by
    show SliceC _ _ _ _ _ _
    rw [hsv]
    exact HN2.out.below SvcC.holds hB3 nL
   have CT := iH (implValid_any y d1 q1 a2 c2 d3 q3 lo w3 HS1.out HS2.out HS3.out (by omega) (by rw [hsv]; omega) (by omega))
   rw [hpk, hsv] at CT
   have HPS := iH (And.intro hpk hsv)
   clear hpk hsv HS2
   go_wp2_with (refine wpList_load_mid rfl 41 _ rfl p 1 rfl [.bool x.pack, .slice d1 y.berths.length q1, .slice a2 x.services.length c2, .slice d3 y.copies.length q3] _ (chF HBK.out) Tryz.underlying41 rfl isz_Flt ?_)
   refine CT.out.mono ?_
   rintro e w4 ⟨rfl, hb4⟩
   have hp3 : p < w3.heap.size := HBK.out.lt
   have hBp4 := hBp3.trans (hb4.mono (Nat.le_of_lt hp3))
   have HBK4 := iH (HBK.out.below hb4 hp3)
   have HS14 := iH (HS1.out.below BrtC.holds hb4 nL)
   have HS34 := iH (HS3.out.below CpyC.holds hb4 nL)
   clear CT hb4 HBK HS1 HS3 hBp3 hB3
   cases hvy : validI y with
   | false =>
    have HR := iH (hapR_2 HV.out HKK.out HEV.out hvy)
    clear hvy
    go_wp2_with fail
    go_ret
    exact .inl ⟨2, by decide, HR.out, rfl, hBp4⟩
   | true =>
    have HR := iH (hapR_0 HV.out HKK.out HEV.out hvy)
    have HVY := iH hvy
    clear hvy
    go_wp2_with fail
    go_ret
    exact .inr ⟨y, d1, q1, d3, q3, HR.out, HVY.out, rfl, HPS.out.1, HPS.out.2, HBK4.out, HS14.out, HS34.out, hBp4⟩
 ·skip
  refine ty 7 ⟨some 18, _, _, _, _, none⟩ (.func (.func 101) #[.pointer (some ⟨p, 0, none⟩)] #[]) rfl (by rfl) ?_ hS ?_
  ·intro wy hy
   rw [hkd]
   have hix : ∀ wy : World, (Instr.index 110 (.agg #[.nilFunc, .func (.func 97) #[.pointer (some ⟨p, 0, none⟩)] #[], .func (.func 98) #[.pointer (some ⟨p, 0, none⟩)] #[], .func (.func 99) #[.pointer (some ⟨p, 0, none⟩)] #[], .func (.func 100) #[.pointer (some ⟨p, 0, none⟩)] #[], .func (.func 101) #[.pointer (some ⟨p, 0, none⟩)] #[]]) (.int .i64 5)).run Tryz.prog wy = .ok (.func (.func 101) #[.pointer (some ⟨p, 0, none⟩)] #[]) wy := fun wy => by kernel_rfl
   clear hy
   go_simp
  simp only [pA,pB,pC,pD]
  have HKD := iH hkd
  clear hkd
  refine rd1 8 ⟨some 19, _, _, _, _, none⟩ rfl (fun K hK => ?_)
  go_simp
  refine (move_any x v pf p m1 m2 m3 m4 b1 o1 c1 a2 c2 b3 o3 c3 am cm al cl lo W0 _ HP2.out HKD.out).mono ?_
  intro e w3 hres
  rcases hres with ⟨hev, rfl, hb3, h5⟩ | ⟨y, d1, q1, d3, q3, hev, rfl, hpk, hsv, hlb, hlc, hbk, hs1, hs3, hb3⟩
  ·have HR := iH (hapR_3 HV.out HKK.out hev)
   have hBp3 := hBp2.trans hb3
   refine hK.out _ _ h5 (fun hS => ?_)
   clear hK K hev hb3 h5 HP2 HN2
   refine tz 9 3 (.int .i64 3) rfl hS ?_
   simp only [pA,pB,pC,pD]
   refine td ?_
   clear hS
   go_wp2_with fail
   go_ret
   exact .inl ⟨3, by decide, HR.out, rfl, hBp3⟩
  ·have hBp3 := hBp2.trans hb3
   have hB3 : Below W0.heap.size W0 w3 := HP2.out.hB.trans (hb3.mono HP2.out.hp)
   have HBK := iH hbk
   have HS1 := iH hs1
   have HS3 := iH hs3
   have HEV := iH hev
   refine hK.out _ _ (hbk.cell rfl) (fun hS => ?_)
   clear hK K hev hb3 hbk hs1 hs3
   refine tz 9 3 (.int .i64 0) rfl hS ?_
   simp only [pA,pB,pC,pD]
   refine td ?_
   clear hS
   have HS2 : Hid (SliceC SvcC 2 lo w3 a2 y.services) := by
    show SliceC _ _ _ _ _ _
    rw [hsv]
    exact HN2.out.below SvcC.holds hB3 nL
   have CT := iH (implValid_any y d1 q1 a2 c2 d3 q3 lo w3 HS1.out HS2.out HS3.out (by omega) (by rw [hsv]; omega) (by omega))
   rw [hpk, hsv] at CT
   have HPS := iH (And.intro hpk hsv)
   clear hpk hsv HS2
   go_wp2_with (refine wpList_load_mid rfl 41 _ rfl p 1 rfl [.bool x.pack, .slice d1 y.berths.length q1, .slice a2 x.services.length c2, .slice d3 y.copies.length q3] _ (chF HBK.out) Tryz.underlying41 rfl isz_Flt ?_)
   refine CT.out.mono ?_
   rintro e w4 ⟨rfl, hb4⟩
   have hp3 : p < w3.heap.size := HBK.out.lt
   have hBp4 := hBp3.trans (hb4.mono (Nat.le_of_lt hp3))
   have HBK4 := iH (HBK.out.below hb4 hp3)
   have HS14 := iH (HS1.out.below BrtC.holds hb4 nL)
   have HS34 := iH (HS3.out.below CpyC.holds hb4 nL)
   clear CT hb4 HBK HS1 HS3 hBp3 hB3
   cases hvy : validI y with
   | false =>
    have HR := iH (hapR_2 HV.out HKK.out HEV.out hvy)
    clear hvy
    go_wp2_with fail
    go_ret
    exact .inl ⟨2, by decide, HR.out, rfl, hBp4⟩
   | true =>
    have HR := iH (hapR_0 HV.out HKK.out HEV.out hvy)
    have HVY := iH hvy
    clear hvy
    go_wp2_with fail
    go_ret
    exact .inr ⟨y, d1, q1, d3, q3, HR.out, HVY.out, rfl, HPS.out.1, HPS.out.2, HBK4.out, HS14.out, HS34.out, hBp4⟩

end Go.Proofs.YtihnjndnkgnmaaaGreat
