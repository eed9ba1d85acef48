import Derived.Test.YtihnjndnkgnmaaaGreatTk0
import Derived.Test.YtihnjndnkgnmaaaGreatJ34
import Derived.Test.YtihnjndnkgnmaaaGreatTkw
namespace Go.Proofs.YtihnjndnkgnmaaaGreat
open Go.RowKit Go.WideMaps Go.Maps

theorem EAt.set {α β : Type} {V : α → Value → List Value} {sub : α → List β} {C : Make β} {m n lo : Nat} {w : World} {ds : List Value} {l : List α} {k : Nat} {y : α} {ae : Option Addr} {ce : Nat} (hV : ∀ x s, (V x s).length = n) (hd : ds.length = l.length * n) (h : EAt V sub C m n lo w ds l) (hk : k < l.length) (hs : SliceC C m lo w ae (sub y)) : EAt V sub C m n lo w (setRun ds (k * n) (V y (.slice ae (sub y).length ce))) (l.set k y) := by
 have hkn : (k + 1) * n ≤ l.length * n := Nat.mul_le_mul_right n (by omega)
 rw [Nat.add_mul] at hkn
 intro j x hj
 by_cases e : j = k
 ·subst e
  rw [List.getElem?_set_self hk] at hj
  cases hj
  refine ⟨ae, ce, fun i u hu => ?_, hs⟩
  have hi : i < n := by have := lt_of_some hu; rwa [hV] at this
  rw [setRun_in _ _ _ _ (by rw [hV]; omega) (by rw [hV]; exact hi)]
  exact hu
 ·rw [List.getElem?_set_ne (fun h => e h.symm)] at hj
  obtain ⟨ae', ce', q1, q2⟩ := h j x hj
  refine ⟨ae', ce', fun i u hu => ?_, q2⟩
  have hi : i < n := by have := lt_of_some hu; rwa [hV] at this
  rw [setRun_out _ _ _ _ (by
   rw [hV]
   rcases Nat.lt_or_ge j k with h1 | h1
   ·have : (j + 1) * n ≤ k * n := Nat.mul_le_mul_right n (by omega)
    rw [Nat.add_mul] at this
    omega
   ·have : (k + 1) * n ≤ j * n := Nat.mul_le_mul_right n (by omega)
    rw [Nat.add_mul] at this
    omega)]
  exact q1 i u hu

def MapTo (f : Cpy → Cpy) (xs : List Cpy) (k : Nat) (l : List Cpy) : Prop := l.length = xs.length ∧ ∀ j : Nat, l[j]? = if j < k then xs[j]?.map f else xs[j]?
theorem MapTo.step {f : Cpy → Cpy} {xs l : List Cpy} {k : Nat} {x : Cpy} (h : MapTo f xs k l) (hx : xs[k]? = some x) : MapTo f xs (k + 1) (l.set k (f x)) := by
 refine ⟨by rw [List.length_set]; exact h.1, fun j => ?_⟩
 have hk := lt_of_some hx
 by_cases e : j = k
 ·subst e
  rw [List.getElem?_set_self (by rw [h.1]; exact hk), if_pos (by omega), hx]
  rfl
 ·rw [List.getElem?_set_ne (fun h => e h.symm), h.2 j]
  by_cases hjk : j < k
  ·rw [if_pos hjk, if_pos (by omega)]
  ·rw [if_neg hjk, if_neg (by omega)]
theorem MapTo.done {f : Cpy → Cpy} {xs l : List Cpy} (h : MapTo f xs xs.length l) : l = xs.map f := by
 refine List.ext_getElem? (fun j => ?_)
 rw [h.2 j, List.getElem?_map]
 by_cases hj : j < xs.length
 ·rw [if_pos hj]
 ·rw [if_neg hj, List.getElem?_eq_none (by omega)]
  rfl

theorem away_likes (s : ByteArray) (c : Cpy) : (awayF s c).likes = c.likes := by
 unfold awayF
 split <;> rfl
theorem away_sz {s : ByteArray} {l : List Cpy} (h : SzC l) : SzC (l.map (awayF s)) := by
 intro y hy
 obtain ⟨c, hc, rfl⟩ := List.mem_map.1 hy
 obtain ⟨h1, h2, h3, h4, h5, h6⟩ := h c hc
 unfold awayF
 split
 ·exact ⟨h1, h2, h3, h4, h5, Nat.zero_le _⟩
 ·exact ⟨h1, h2, h3, h4, h5, h6⟩

set_option maxHeartbeats 4000000 in
set_option maxRecDepth 100000 in
theorem away_any (c : Cpy) (ax : Option Addr) (cx : Nat) (s : ByteArray) (pb p : Nat) (w : World) (hpb : w.cell? ⟨pb, 0, none⟩ = some (.pointer (some ⟨p, 0, none⟩))) (hn : w.cell? ⟨p, 24, none⟩ = some (.string s)) :
  Calls Tryz.prog 122 #[.agg #[.string c.name, .string c.service, .int .i64 c.rank, .int .i64 c.born, .int .i64 c.room, .int .i64 c.hold, .string c.select, .slice ax c.likes.length cx, .int .i64 c.apart, .string c.near, .string c.fixed, .string c.at_], .pointer (some ⟨pb, 0, none⟩)] w fun e w' => e = .returned (.agg #[.string (awayF s c).name, .string (awayF s c).service, .int .i64 (awayF s c).rank, .int .i64 (awayF s c).born, .int .i64 (awayF s c).room, .int .i64 (awayF s c).hold, .string (awayF s c).select, .slice ax (awayF s c).likes.length cx, .int .i64 (awayF s c).apart, .string (awayF s c).near, .string (awayF s c).fixed, .string (awayF s c).at_]) ∧ Below w.heap.size w w' := by
 have h1 := Blk.alloc w #[.string c.name, .string c.service, .int .i64 c.rank, .int .i64 c.born, .int .i64 c.room, .int .i64 c.hold, .string c.select, .slice ax c.likes.length cx, .int .i64 c.apart, .string c.near, .string c.fixed, .string c.at_] 48
 have HK2 : Hid (Blk w.heap.size #[.string c.name, .string c.service, .int .i64 c.rank, .int .i64 c.born, .int .i64 c.room, .int .i64 c.hold, .string c.select, .slice ax c.likes.length cx, .int .i64 c.apart, .string c.near, .string c.fixed, .string c.at_] 48 ((w.alloc (Obj.cells #[.string c.name, .string c.service, .int .i64 c.rank, .int .i64 c.born, .int .i64 c.room, .int .i64 c.hold, .string c.select, .slice ax c.likes.length cx, .int .i64 c.apart, .string c.near, .string c.fixed, .string c.at_] 48)).alloc (Obj.cells #[.string ⟨#[]⟩, .string ⟨#[]⟩, .int .i64 0, .int .i64 0, .int .i64 0, .int .i64 0, .string ⟨#[]⟩, .slice none 0 0, .int .i64 0, .string ⟨#[]⟩, .string ⟨#[]⟩, .string ⟨#[]⟩] 48))) := h1.below ((Below.refl _ _).alloc nL _) h1.lt
 have HZ2 : Hid (Blk (w.heap.size + 1) #[.string ⟨#[]⟩, .string ⟨#[]⟩, .int .i64 0, .int .i64 0, .int .i64 0, .int .i64 0, .string ⟨#[]⟩, .slice none 0 0, .int .i64 0, .string ⟨#[]⟩, .string ⟨#[]⟩, .string ⟨#[]⟩] 48 ((w.alloc (Obj.cells #[.string c.name, .string c.service, .int .i64 c.rank, .int .i64 c.born, .int .i64 c.room, .int .i64 c.hold, .string c.select, .slice ax c.likes.length cx, .int .i64 c.apart, .string c.near, .string c.fixed, .string c.at_] 48)).alloc (Obj.cells #[.string ⟨#[]⟩, .string ⟨#[]⟩, .int .i64 0, .int .i64 0, .int .i64 0, .int .i64 0, .string ⟨#[]⟩, .slice none 0 0, .int .i64 0, .string ⟨#[]⟩, .string ⟨#[]⟩, .string ⟨#[]⟩] 48))) := by
  have := Blk.alloc (w.alloc (Obj.cells #[.string c.name, .string c.service, .int .i64 c.rank, .int .i64 c.born, .int .i64 c.room, .int .i64 c.hold, .string c.select, .slice ax c.likes.length cx, .int .i64 c.apart, .string c.near, .string c.fixed, .string c.at_] 48)) #[.string ⟨#[]⟩, .string ⟨#[]⟩, .int .i64 0, .int .i64 0, .int .i64 0, .int .i64 0, .string ⟨#[]⟩, .slice none 0 0, .int .i64 0, .string ⟨#[]⟩, .string ⟨#[]⟩, .string ⟨#[]⟩] 48
  show Blk _ _ _ _
  simpa using this
 have hB2 : Below w.heap.size w ((w.alloc (Obj.cells #[.string c.name, .string c.service, .int .i64 c.rank, .int .i64 c.born, .int .i64 c.room, .int .i64 c.hold, .string c.select, .slice ax c.likes.length cx, .int .i64 c.apart, .string c.near, .string c.fixed, .string c.at_] 48)).alloc (Obj.cells #[.string ⟨#[]⟩, .string ⟨#[]⟩, .int .i64 0, .int .i64 0, .int .i64 0, .int .i64 0, .string ⟨#[]⟩, .slice none 0 0, .int .i64 0, .string ⟨#[]⟩, .string ⟨#[]⟩, .string ⟨#[]⟩] 48)) := by go_grown
 have k0 : ((w.alloc (Obj.cells #[.string c.name, .string c.service, .int .i64 c.rank, .int .i64 c.born, .int .i64 c.room, .int .i64 c.hold, .string c.select, .slice ax c.likes.length cx, .int .i64 c.apart, .string c.near, .string c.fixed, .string c.at_] 48)).alloc (Obj.cells #[.string ⟨#[]⟩, .string ⟨#[]⟩, .int .i64 0, .int .i64 0, .int .i64 0, .int .i64 0, .string ⟨#[]⟩, .slice none 0 0, .int .i64 0, .string ⟨#[]⟩, .string ⟨#[]⟩, .string ⟨#[]⟩] 48)).cell? ⟨pb, 0, none⟩ = some (.pointer (some ⟨p, 0, none⟩)) := (hB2.cell (p := ⟨pb, 0, none⟩) (block_lt_of_cell hpb)).trans hpb
 have kn : ((w.alloc (Obj.cells #[.string c.name, .string c.service, .int .i64 c.rank, .int .i64 c.born, .int .i64 c.room, .int .i64 c.hold, .string c.select, .slice ax c.likes.length cx, .int .i64 c.apart, .string c.near, .string c.fixed, .string c.at_] 48)).alloc (Obj.cells #[.string ⟨#[]⟩, .string ⟨#[]⟩, .int .i64 0, .int .i64 0, .int .i64 0, .int .i64 0, .string ⟨#[]⟩, .slice none 0 0, .int .i64 0, .string ⟨#[]⟩, .string ⟨#[]⟩, .string ⟨#[]⟩] 48)).cell? ⟨p, 24, none⟩ = some (.string s) := (hB2.cell (p := ⟨p, 24, none⟩) (block_lt_of_cell hn)).trans hn
 clear h1 hpb hn
 go_enter Tryz.func122, Tryz.ntmps122
 go_upto_region 1 with fail
 generalize ((w.alloc (Obj.cells #[.string c.name, .string c.service, .int .i64 c.rank, .int .i64 c.born, .int .i64 c.room, .int .i64 c.hold, .string c.select, .slice ax c.likes.length cx, .int .i64 c.apart, .string c.near, .string c.fixed, .string c.at_] 48)).alloc (Obj.cells #[.string ⟨#[]⟩, .string ⟨#[]⟩, .int .i64 0, .int .i64 0, .int .i64 0, .int .i64 0, .string ⟨#[]⟩, .slice none 0 0, .int .i64 0, .string ⟨#[]⟩, .string ⟨#[]⟩, .string ⟨#[]⟩] 48)) = w2 at *
 have k11 : w2.cell? ⟨w.heap.size, 11, none⟩ = some (.string c.at_) := HK2.out.cell rfl
 by_cases he : c.at_ = s
 ·have HE : Hid (awayF s c = { c with at_ := noText }) := if_pos he
  rw [he] at k11
  clear he
  go_region
  have HK3 := iH HK2.out.drew
  have HZ3 := iH HZ2.out.drew
  have hB3 := hB2.drew
  clear HK2 HZ2 hB2 k0 kn k11
  generalize w2.drew = w3 at *
  have kx := HK3.out.cell (o := 11) rfl
  have fx := HK3.out.frozen 11
  go_upto_region 3 with fail
  clear kx fx
  have HK4 : Hid (Blk w.heap.size #[.string c.name, .string c.service, .int .i64 c.rank, .int .i64 c.born, .int .i64 c.room, .int .i64 c.hold, .string c.select, .slice ax c.likes.length cx, .int .i64 c.apart, .string c.near, .string c.fixed, .string ⟨#[]⟩] 48 (w3.setCell ⟨w.heap.size, 11, none⟩ (.string ⟨#[]⟩))) := HK3.out.set 11 _
  have HZ4 : Hid (Blk (w.heap.size + 1) #[.string ⟨#[]⟩, .string ⟨#[]⟩, .int .i64 0, .int .i64 0, .int .i64 0, .int .i64 0, .string ⟨#[]⟩, .slice none 0 0, .int .i64 0, .string ⟨#[]⟩, .string ⟨#[]⟩, .string ⟨#[]⟩] 48 (w3.setCell ⟨w.heap.size, 11, none⟩ (.string ⟨#[]⟩))) := HZ3.out.other (a := ⟨w.heap.size, 11, none⟩) (show w.heap.size + 1 ≠ w.heap.size by omega) _
  have hB4 : Below w.heap.size w (w3.setCell ⟨w.heap.size, 11, none⟩ (.string ⟨#[]⟩)) := hB3.setCell (p := ⟨w.heap.size, 11, none⟩) nL _
  clear HK3 HZ3 hB3
  generalize w3.setCell ⟨w.heap.size, 11, none⟩ (.string ⟨#[]⟩) = w4 at *
  have HTR := iH HZ4.out.there
  obtain ⟨w8, HW8⟩ : ∃ w', Hid (w' = w4.setCells (w.heap.size + 1) 0 [.string c.name, .string c.service, .int .i64 c.rank, .int .i64 c.born, .int .i64 c.room, .int .i64 c.hold, .string c.select, .slice ax c.likes.length cx, .int .i64 c.apart, .string c.near, .string c.fixed, .string ⟨#[]⟩]) := ⟨_, rfl⟩
  have HR8 : Hid (w8.rangeAt (w.heap.size + 1) 0 [.string c.name, .string c.service, .int .i64 c.rank, .int .i64 c.born, .int .i64 c.room, .int .i64 c.hold, .string c.select, .slice ax c.likes.length cx, .int .i64 c.apart, .string c.near, .string c.fixed, .string ⟨#[]⟩]) := by
   show World.rangeAt _ _ _ _
   rw [HW8.out]
   exact World.rangeAt_setCells_same _ _ _ _ HTR.out
  have hB8 : Below w.heap.size w w8 := by
   rw [HW8.out]
   exact below_setCells (by omega) _ _ _ hB4
  clear hB4 HZ4
  go_wp2_with (first | (refine wpList_load_mid rfl 48 _ rfl w.heap.size 0 rfl [.string c.name, .string c.service, .int .i64 c.rank, .int .i64 c.born, .int .i64 c.room, .int .i64 c.hold, .string c.select, .slice ax c.likes.length cx, .int .i64 c.apart, .string c.near, .string c.fixed, .string ⟨#[]⟩] _ HK4.out.rangeA Tryz.underlying48 rfl isz_Cpy ?_) | (refine wpList_store_to rfl 48 _ _ rfl (w.heap.size + 1) 0 #[.string c.name, .string c.service, .int .i64 c.rank, .int .i64 c.born, .int .i64 c.room, .int .i64 c.hold, .string c.select, .slice ax c.likes.length cx, .int .i64 c.apart, .string c.near, .string c.fixed, .string ⟨#[]⟩] rfl rfl HTR.out isz_Cpy (by simp [Value.oneCell']) w8 HW8.out ?_))
  exact bodyPost_ret (results_cell_mid rfl _ _ (w.heap.size + 1) [.string c.name, .string c.service, .int .i64 c.rank, .int .i64 c.born, .int .i64 c.room, .int .i64 c.hold, .string c.select, .slice ax c.likes.length cx, .int .i64 c.apart, .string c.near, .string c.fixed, .string ⟨#[]⟩] _ rfl HR8.out Tryz.underlying48 rfl isz_Cpy) rfl ⟨by first | (rw [HE.out]; done) | (rw [HE.out]; rfl), hB8⟩
 ·have HE : Hid (awayF s c = c) := if_neg he
  have ht := bts_ne he
  go_region
  have HK4 := iH HK2.out.drew
  have HZ4 := iH HZ2.out.drew
  have hB4 := hB2.drew
  clear HK2 HZ2 hB2 k0 kn k11
  generalize w2.drew = w4 at *
  have HTR := iH HZ4.out.there
  obtain ⟨w8, HW8⟩ : ∃ w', Hid (w' = w4.setCells (w.heap.size + 1) 0 [.string c.name, .string c.service, .int .i64 c.rank, .int .i64 c.born, .int .i64 c.room, .int .i64 c.hold, .string c.select, .slice ax c.likes.length cx, .int .i64 c.apart, .string c.near, .string c.fixed, .string c.at_]) := ⟨_, rfl⟩
  have HR8 : Hid (w8.rangeAt (w.heap.size + 1) 0 [.string c.name, .string c.service, .int .i64 c.rank, .int .i64 c.born, .int .i64 c.room, .int .i64 c.hold, .string c.select, .slice ax c.likes.length cx, .int .i64 c.apart, .string c.near, .string c.fixed, .string c.at_]) := by
   show World.rangeAt _ _ _ _
   rw [HW8.out]
   exact World.rangeAt_setCells_same _ _ _ _ HTR.out
  have hB8 : Below w.heap.size w w8 := by
   rw [HW8.out]
   exact below_setCells (by omega) _ _ _ hB4
  clear hB4 HZ4
  go_wp2_with (first | (refine wpList_load_mid rfl 48 _ rfl w.heap.size 0 rfl [.string c.name, .string c.service, .int .i64 c.rank, .int .i64 c.born, .int .i64 c.room, .int .i64 c.hold, .string c.select, .slice ax c.likes.length cx, .int .i64 c.apart, .string c.near, .string c.fixed, .string c.at_] _ HK4.out.rangeA Tryz.underlying48 rfl isz_Cpy ?_) | (refine wpList_store_to rfl 48 _ _ rfl (w.heap.size + 1) 0 #[.string c.name, .string c.service, .int .i64 c.rank, .int .i64 c.born, .int .i64 c.room, .int .i64 c.hold, .string c.select, .slice ax c.likes.length cx, .int .i64 c.apart, .string c.near, .string c.fixed, .string c.at_] rfl rfl HTR.out isz_Cpy (by simp [Value.oneCell']) w8 HW8.out ?_))
  exact bodyPost_ret (results_cell_mid rfl _ _ (w.heap.size + 1) [.string c.name, .string c.service, .int .i64 c.rank, .int .i64 c.born, .int .i64 c.room, .int .i64 c.hold, .string c.select, .slice ax c.likes.length cx, .int .i64 c.apart, .string c.near, .string c.fixed, .string c.at_] _ rfl HR8.out Tryz.underlying48 rfl isz_Cpy) rfl ⟨by first | (rw [HE.out]; done) | (rw [HE.out]; rfl), hB8⟩

set_option maxHeartbeats 1000000 in
set_option maxRecDepth 100000 in
theorem clCpyW_any (n : Nat) (cs : List Value) (ad : Addr) (cap : Nat) (w : World) (hcl : cs.length = n * 12) (hcs : ∀ j u, cs[j]? = some u → w.cell? (ad.add j) = some u) (hc1 : ∀ u ∈ cs, u.oneCell' = true) (hsm : n ≤ 1048576) :
  Calls Tryz.prog 106 #[.slice (some ad) n cap] w fun e w' => ∃ g c, e = .returned (.slice (some ⟨g, 0, none⟩) n c) ∧ w'.ownsRow w.heap.size 48 12 (.slice (some ⟨g, 0, none⟩) n c) n cs ∧ Below w.heap.size w w' := by
 obtain ⟨i0, hi, hz0, hz1, hz2⟩ := info_parts info_Cpy
 have q22 : ∀ (w : World) (a : Option Addr) (n c n' c' : Nat), (binOp .eql 39 (.slice a n c) (.slice none n' c')).run Tryz.prog w = .ok (.bool a.isNone) w := fun w a n c n' c' => Lib.run_eql_slice_nil w _ _ a n c n' c' Tryz.underlying39
 have HCL := iH hcl
 have HS := iH hcs
 have HC1 := iH hc1
 clear hcl hcs hc1
 go_enter Tryz.func106, Tryz.ntmps106
 go_wp2_with (at_builtin; refine wpList_append_own _ rfl _ _ 39 rfl w.heap.size 48 i0 _ 12 160 Tryz.underlying39 hi hz0 hz1 hz2 rfl (by decide) _ _ _ rfl (World.ownsRow_made w #[] 0 nL (Nat.zero_le _) rfl) ad n _ cs rfl HCL.out (fun j u hj => Lib.cell?_alloc_some _ (HS.out j u hj)) HC1.out (by unfold maxLen; omega) (by omega) (by simp) ?_; intro v' w1 hown hgrow hnil)
 have hv : v' ≠ .slice none 0 0 := fun e => by have := (hnil.1 e).1; cases this
 have hown' : w1.ownsRow w.heap.size 48 12 v' n cs := by simpa using hown
 obtain ⟨g, c, rfl⟩ := rowf hown' hv
 have HO := iH hown'
 have hB : Below w.heap.size w w1 := ((Below.refl _ w).alloc nL _).grown hgrow (by simp) (by intro k hk; cases hk; exact Nat.le_refl _)
 clear hown hgrow hnil hv hown'
 go_wp2_with fail
 go_ret
 exact ⟨g, c, rfl, HO.out, hB⟩

set_option maxHeartbeats 4000000 in
set_option maxRecDepth 100000 in
theorem eachAway_any (xs : List Cpy) (s : ByteArray) (b0 o0 : Nat) (cap lo pb p : Nat) (W0 w : World) (hB0 : Below W0.heap.size W0 w) (hin : SliceC CpyC 12 lo W0 (some ⟨b0, o0, none⟩) xs) (hsm : xs.length ≤ 1048576) (hpb : w.cell? ⟨pb, 0, none⟩ = some (.pointer (some ⟨p, 0, none⟩))) (hn : w.cell? ⟨p, 24, none⟩ = some (.string s)) :
  Calls Tryz.prog 70 #[.slice (some ⟨b0, o0, none⟩) xs.length cap, .func (.func 122) #[] #[.pointer (some ⟨pb, 0, none⟩)]] w fun e w' => ∃ vv ds, e = .returned vv ∧ w'.ownsRow w.heap.size 48 12 vv (xs.map (awayF s)).length ds ∧ EAt vCp Cpy.likes LikC 2 12 lo W0 ds (xs.map (awayF s)) ∧ Below w.heap.size w w' := by
 have HPB := iH hpb
 have HNN := iH hn
 obtain ⟨cs, hc1, hc2, hc3, hc4⟩ := cellsCpy hin
 have HC2 : Hid (∀ j u, cs[j]? = some u → w.cell? ((⟨b0, o0, none⟩ : Addr).add j) = some u) := fun j u hj => (hB0.cell (p := (⟨b0, o0, none⟩ : Addr).add j) (block_lt_of_cell (hc2 j u hj))).trans (hc2 j u hj)
 have HC4 : Hid (EAt vCp Cpy.likes LikC 2 12 lo W0 cs xs) := hc4
 have HC1 := iH hc1
 have HC3 := iH hc3
 clear hin hpb hn hc1 hc2 hc3 hc4
 go_enter Tryz.func70, Tryz.ntmps70
 go_wp2_with fail
 refine (clCpyW_any xs.length cs ⟨b0, o0, none⟩ cap _ HC1.out HC2.out HC3.out hsm).mono ?_
 rintro e w1 ⟨g, q, rfl, hO1, hB1⟩
 have HO1 := iH hO1
 have HM0 : Hid (MapTo (awayF s) xs 0 xs) := ⟨rfl, fun j => by rw [if_neg (Nat.not_lt_zero _)]⟩
 clear hO1 HC2 HC3
 go_wp2_with fail
 go_loopw [11] (fun i wr => ∃ (k : Nat) (cs : List Value) (l : List Cpy), k ≤ xs.length ∧ i = .int .i64 k ∧ Hid (wr.ownsRow w.heap.size 48 12 (.slice (some ⟨g, 0, none⟩) xs.length q) xs.length cs) ∧ Hid (EAt vCp Cpy.likes LikC 2 12 lo W0 cs l) ∧ Hid (MapTo (awayF s) xs k l) ∧ Below w.heap.size w wr) (fun i _ => xs.length - (intOf i).toNat)
 case atStart => exact ⟨0, cs, xs, Nat.zero_le _, rfl, HO1, HC4, HM0, hB1⟩
 case round =>
  clear HO1 HC4 HM0 hB1 HC1
  obtain ⟨k, cs, l, hk, rfl, HO, HP, HM, hB⟩ := hrel
  by_cases hlt : k < xs.length
  ·obtain ⟨x, hx⟩ : ∃ x, xs[k]? = some x := ⟨xs[k], List.getElem?_eq_getElem hlt⟩
   have HXX := iH hx
   have hgl : g < wr.heap.size := (HO.out.lt g rfl).2
   have hgb : w.heap.size ≤ g := rowb HO.out
   have hcl : cs.length = xs.length * 12 := HO.out.1
   have hlk : l[k]? = some x := by rw [HM.out.2 k, if_neg (Nat.lt_irrefl _)]; exact hx
   obtain ⟨am, cm, hqc, hsm0⟩ := HP.out k x hlk
   have HSM := iH hsm0
   have HRA : Hid (wr.rangeAt g (k * 12) [.string x.name, .string x.service, .int .i64 x.rank, .int .i64 x.born, .int .i64 x.room, .int .i64 x.hold, .string x.select, .slice am x.likes.length cm, .int .i64 x.apart, .string x.near, .string x.fixed, .string x.at_]) := fun j v hv => by
    have hj : j < 12 := lt_of_some hv
    have h1 := HO.out.cellAt (k * 12 + j) (by omega)
    rw [hqc j v hv] at h1
    exact h1
   clear hx hqc hsm0 hlk
   have hza : Blk wr.heap.size #[.string ⟨#[]⟩, .string ⟨#[]⟩, .int .i64 0, .int .i64 0, .int .i64 0, .int .i64 0, .string ⟨#[]⟩, .slice none 0 0, .int .i64 0, .string ⟨#[]⟩, .string ⟨#[]⟩, .string ⟨#[]⟩] 48 (wr.alloc (Obj.cells #[.string ⟨#[]⟩, .string ⟨#[]⟩, .int .i64 0, .int .i64 0, .int .i64 0, .int .i64 0, .string ⟨#[]⟩, .slice none 0 0, .int .i64 0, .string ⟨#[]⟩, .string ⟨#[]⟩, .string ⟨#[]⟩] 48)) := Blk.alloc _ _ _
   have HTS : Hid ((wr.alloc (Obj.cells #[.string ⟨#[]⟩, .string ⟨#[]⟩, .int .i64 0, .int .i64 0, .int .i64 0, .int .i64 0, .string ⟨#[]⟩, .slice none 0 0, .int .i64 0, .string ⟨#[]⟩, .string ⟨#[]⟩, .string ⟨#[]⟩] 48)).there wr.heap.size 0 12) := hza.there
   obtain ⟨w4, HW4⟩ : ∃ w4, Hid (w4 = (wr.alloc (Obj.cells #[.string ⟨#[]⟩, .string ⟨#[]⟩, .int .i64 0, .int .i64 0, .int .i64 0, .int .i64 0, .string ⟨#[]⟩, .slice none 0 0, .int .i64 0, .string ⟨#[]⟩, .string ⟨#[]⟩, .string ⟨#[]⟩] 48)).setCells wr.heap.size 0 [.string x.name, .string x.service, .int .i64 x.rank, .int .i64 x.born, .int .i64 x.room, .int .i64 x.hold, .string x.select, .slice am x.likes.length cm, .int .i64 x.apart, .string x.near, .string x.fixed, .string x.at_]) := ⟨_, rfl⟩
   have HK4 : Hid (Blk wr.heap.size #[.string x.name, .string x.service, .int .i64 x.rank, .int .i64 x.born, .int .i64 x.room, .int .i64 x.hold, .string x.select, .slice am x.likes.length cm, .int .i64 x.apart, .string x.near, .string x.fixed, .string x.at_] 48 w4) := by
    show Blk _ _ _ _
    rw [HW4.out]
    exact hza.setAll #[.string x.name, .string x.service, .int .i64 x.rank, .int .i64 x.born, .int .i64 x.room, .int .i64 x.hold, .string x.select, .slice am x.likes.length cm, .int .i64 x.apart, .string x.near, .string x.fixed, .string x.at_] rfl
   have hbx : Below wr.heap.size wr w4 := by
    rw [HW4.out]
    exact below_setCells nL _ _ _ ((Below.refl _ wr).alloc nL _)
   have hB4 : Below w.heap.size w w4 := hB.trans (hbx.mono hB.size)
   have HBX := iH hbx
   have hs4 : wr.heap.size ≤ w4.heap.size := hbx.size
   clear hza hbx hB
   go_upto_region 5 with (first | (refine wpList_load_mid rfl 48 _ rfl g (k * 12) (by first | rfl | (simp [go_sem]; done)) [.string x.name, .string x.service, .int .i64 x.rank, .int .i64 x.born, .int .i64 x.room, .int .i64 x.hold, .string x.select, .slice am x.likes.length cm, .int .i64 x.apart, .string x.near, .string x.fixed, .string x.at_] _ HRA.out Tryz.underlying48 rfl isz_Cpy ?_) | (refine wpList_store_to rfl 48 _ _ rfl wr.heap.size 0 #[.string x.name, .string x.service, .int .i64 x.rank, .int .i64 x.born, .int .i64 x.room, .int .i64 x.hold, .string x.select, .slice am x.likes.length cm, .int .i64 x.apart, .string x.near, .string x.fixed, .string x.at_] rfl rfl HTS.out isz_Cpy (by simp [Value.oneCell']) w4 HW4.out ?_))
   clear HRA HTS HW4
   go_wp2_with (first | (refine wpList_load_mid rfl 48 _ rfl wr.heap.size 0 (by first | rfl | (simp [go_sem]; done)) [.string x.name, .string x.service, .int .i64 x.rank, .int .i64 x.born, .int .i64 x.room, .int .i64 x.hold, .string x.select, .slice am x.likes.length cm, .int .i64 x.apart, .string x.near, .string x.fixed, .string x.at_] _ HK4.out.rangeA Tryz.underlying48 rfl isz_Cpy ?_))
   refine (away_any x am cm s pb p _ ((hB4.cell (p := ⟨pb, 0, none⟩) (block_lt_of_cell HPB.out)).trans HPB.out) ((hB4.cell (p := ⟨p, 24, none⟩) (block_lt_of_cell HNN.out)).trans HNN.out)).mono ?_
   rintro e w5 ⟨rfl, hb5⟩
   have hB5 := hB4.trans (hb5.mono hB4.size)
   have hBr : Below wr.heap.size wr w5 := HBX.out.trans (hb5.mono hs4)
   have HO5 := iH (ownsRow_below HO.out hBr)
   have HT5 : Hid (w5.there g (k * 12) 12) := ownsRow_there HO5.out (by omega)
   obtain ⟨y, hy⟩ : ∃ y, y = awayF s x := ⟨_, rfl⟩
   have HSY : Hid (SliceC LikC 2 lo W0 am y.likes) := by
    show SliceC _ _ _ _ _ _
    rw [hy, away_likes]
    exact HSM.out
   have HM6 := iH (HM.out.step HXX.out)
   rw [← hy] at HM6 ⊢
   clear hy
   obtain ⟨w6, HW6⟩ : ∃ w6, Hid (w6 = w5.setCells g (k * 12) (vCp y (.slice am y.likes.length cm))) := ⟨_, rfl⟩
   have HO6 : Hid (w6.ownsRow w.heap.size 48 12 (.slice (some ⟨g, 0, none⟩) xs.length q) xs.length (setRun cs (k * 12) (vCp y (.slice am y.likes.length cm)))) := by
    have h := ownsRow_run (vCp y (.slice am y.likes.length cm)) _ (k * 12) _ HO5.out
    rw [← HW6.out] at h
    exact h
   have HP6 := iH (HP.out.set (ce := cm) vCp_len (by rw [hcl, HM.out.1]) (by rw [HM.out.1]; exact hlt) HSY.out)
   have hB6 : Below w.heap.size w w6 := by
    rw [HW6.out]
    exact below_setCells hgb _ _ _ hB5
   unfold vCp at HW6
   clear hB5 HO5 hB4 HBX hs4 hb5 hBr HK4 HO HP HM HSM HSY HXX
   have i0 : (0 : Int) ≤ (k : Int) := by omega
   have i1 : (k : Int) < (xs.length : Int) := by omega
   go_wp2_with (first | (refine wpList_store_to rfl 48 _ _ rfl g (k * 12) #[.string y.name, .string y.service, .int .i64 y.rank, .int .i64 y.born, .int .i64 y.room, .int .i64 y.hold, .string y.select, .slice am y.likes.length cm, .int .i64 y.apart, .string y.near, .string y.fixed, .string y.at_] (by first | rfl | (simp [go_sem]; done)) rfl HT5.out isz_Cpy (by simp [Value.oneCell']) w6 HW6.out ?_))
   go_roundw
   case rel => exact ⟨k + 1, _, _, by omega, by go_num, HO6, HP6, HM6, hB6⟩
   case measure => simp [intOf]; omega
  ·have hke : k = xs.length := by omega
   subst hke
   have hl := HM.out.done
   subst hl
   have HO9 : Hid (wr.ownsRow w.heap.size 48 12 (.slice (some ⟨g, 0, none⟩) xs.length q) (xs.map (awayF s)).length cs) := by
    show World.ownsRow _ _ _ _ _ _ _
    rw [List.length_map]
    exact HO.out
   go_wp2_with fail
   go_ret
   exact ⟨_, cs, rfl, HO9.out, HP.out, hB⟩

end Go.Proofs.YtihnjndnkgnmaaaGreat

namespace Go.Proofs.YtihnjndnkgnmaaaGreat
open Go.RowKit Go.WideMaps Go.Maps

theorem cut_len {α : Type} (l : List α) (k : Nat) : (cutL l k).length ≤ l.length := by
 unfold cutL
 rw [List.length_append, List.length_take, List.length_drop]
 omega
theorem cut_mem {α : Type} {l : List α} {k : Nat} {x : α} (h : x ∈ cutL l k) : x ∈ l := by
 rcases List.mem_append.1 h with h | h
 ·exact List.mem_of_mem_take h
 ·exact List.mem_of_mem_drop h
theorem kept_setT {p base : Nat} {T : TypeId} {n : Nat} {vv : Value} {k i : Nat} {ds : List Value} {w : World} (h : w.ownsRow base T n vv k ds) (hp : p < base) (u : Value) : (w.setCell ⟨p, i, none⟩ u).ownsRow base T n vv k ds := kept_set h hp u
theorem mov_put {x : Flt} {k : Nat} {c : Cpy} (ha : AscN (cpN x)) (hc : x.copies[k]? = some c) (s : ByteArray) : putN Cpy.name x.copies { c with at_ := s } = movL x.copies k s := by
 have h1 : ∀ y ∈ x.copies.take k, ltN y.name c.name = true := by
  intro y hy
  obtain ⟨j, hj⟩ := List.getElem?_of_mem hy
  have hjk : j < k := by have h9 := lt_of_some hj; rw [List.length_take] at h9; omega
  rw [List.getElem?_take_of_lt hjk] at hj
  exact ha.less (map_get (f := Cpy.name) hj) (map_get (f := Cpy.name) hc) hjk
 unfold movL
 rw [hc]
 exact putN_over (nm := Cpy.name) (a := { c with at_ := s }) h1 hc (bl_irr _) rfl
theorem mov_len (l : List Cpy) (k : Nat) (s : ByteArray) : (movL l k s).length = l.length := by
 unfold movL
 split
 ·rename_i c hc
  have := lt_of_some hc
  rw [List.length_append, List.length_take, List.length_cons, List.length_drop]
  omega
 ·rfl

set_option maxHeartbeats 4000000 in
set_option maxRecDepth 100000 in
theorem dropCpy_any (x : Flt) (v : Evt) (pf p m1 m2 m3 m4 b1 o1 c1 : Nat) (a2 : Option Addr) (c2 b3 o3 c3 : Nat) (am : Option Addr) (cm : Nat) (al : Option Addr) (cl lo : Nat) (W0 w : World) (H : AcPre x v pf p m1 m2 m3 m4 b1 o1 c1 a2 c2 b3 o3 c3 am cm al cl lo W0 w) (hkd : v.kind = 4) :
  Calls Tryz.prog 100 #[.pointer (some ⟨p, 0, none⟩)] w fun e w' => AcRes x v pf p a2 c2 am cm al cl lo w e w' := by
 have hl1 : x.berths.length ≤ 13 := Nat.le_trans (valid_more H.hv).1 (by omega)
 have hl3 : x.copies.length ≤ 61 := Nat.le_trans (valid_parts H.hv).2.1 (by omega)
 have HP := iH H
 have HK := iH H.hK
 have hB := H.hB
 have k0 : w.cell? ⟨p, 0, none⟩ = some (.pointer (some ⟨pf, 0, none⟩)) := H.hK.cell rfl
 have kf : w.cell? ⟨pf, 6, none⟩ = some (.map (some m3)) := H.hF.1 6 _ rfl
 have kn : w.cell? ⟨p, 24, none⟩ = some (.string v.name) := H.hK.cell rfl
 have yl := look_places (s := v.name) H.hF.2.2.2.2.1.drew H.zn
 have HKD := iH hkd
 clear H hkd
 go_enter Tryz.func100, Tryz.ntmps100
 go_upto_region 1 with fail
 cases hj : lastOf (cpN x) v.name x.copies.length with
 | none =>
  rw [hj] at yl
  simp only [Option.isSome_none, Option.getD_none] at yl
  have HEV : Hid (evF x v = none) := by
   show evF x v = none
   simp [evF, HKD.out, hj]
  clear hj
  go_region
  go_wp2_with fail
  go_ret
  exact .inl ⟨HEV.out, rfl, (Below.refl _ _).drew, HK.out.drew.cell rfl⟩
 | some k =>
  obtain ⟨hkl, _⟩ := lastOf_get hj
  rw [hj] at yl
  simp only [Option.isSome_some, Option.getD_some] at yl
  have HEV : Hid (evF x v = some { x with copies := cutL x.copies k }) := by
   show evF x v = _
   simp [evF, HKD.out, hj]
  clear hj
  go_region
  replace hB := hB.drew
  have hBp : Below p w w.drew := (Below.refl p w).drew
  replace HK := iH HK.out.drew
  have hpd : p < w.drew.heap.size := HK.out.lt
  clear k0 kf kn yl
  generalize w.drew = wn at *
  have k4 : wn.cell? ⟨p, 4, none⟩ = some (.slice (some ⟨b3, o3, none⟩) x.copies.length c3) := HK.out.cell rfl
  go_wp2_with fail
  refine (woCpy_any x.copies b3 o3 k c3 lo W0 _ hB HP.out.n3 (by omega) HP.out.hc3 HP.out.hm3 hkl).mono ?_
  rintro e w5 ⟨vv, ds, rfl, hO, hE, hb5⟩
  obtain ⟨d, q, rfl⟩ := own_form hO
  have HO : Hid (w5.ownsRow wn.heap.size 48 12 (.slice d (cutL x.copies k).length q) (cutL x.copies k).length ds) := hO
  have HE : Hid (EAt vCp Cpy.likes LikC 2 12 lo W0 ds (cutL x.copies k)) := hE
  have hB5 := hB.trans (hb5.mono hB.size)
  have hBp5 := hBp.trans (hb5.mono (Nat.le_of_lt hpd))
  have HK5 := iH (HK.out.below hb5 HK.out.lt)
  clear hO hE hb5 hB hBp HK k4
  have hcl : (x.copies.take k ++ x.copies.drop (k + 1)).length = (cutL x.copies k).length := rfl
  rw [hcl]
  clear hcl
  have kz : w5.cell? ⟨p, 4, none⟩ = some (.slice (some ⟨b3, o3, none⟩) x.copies.length c3) := HK5.out.cell rfl
  have fz := HK5.out.frozen 4
  go_upto_region 5 with fail
  clear kz fz
  have HK6 : Hid (Blk p (chV pf x.pack (.slice (some ⟨b1, o1, none⟩) x.berths.length c1) (.slice a2 x.services.length c2) ((.slice d (cutL x.copies k).length q)) v am cm al cl) 76 (w5.setCell ⟨p, 4, none⟩ (.slice d (cutL x.copies k).length q))) := HK5.out.set 4 _
  have HO6 := iH (kept_set (i := 4) HO.out hpd (.slice d (cutL x.copies k).length q))
  have hBp6 := below_set (i := 4) hBp5 (.slice d (cutL x.copies k).length q)
  have hB6 : Below W0.heap.size W0 (w5.setCell ⟨p, 4, none⟩ (.slice d (cutL x.copies k).length q)) := hB5.setCell (p := ⟨p, 4, none⟩) HP.out.hp _
  clear HO HK5 hB5 hBp5
  generalize w5.setCell ⟨p, 4, none⟩ (.slice d (cutL x.copies k).length q) = w6 at *
  obtain ⟨d9, q9, e9, hsl⟩ := rowCpy HO6.out (Nat.le_trans HP.out.hlo (Nat.le_trans HP.out.hp (Nat.le_of_lt hpd))) (HE.out.below LikC.holds hB6 nL) (fun y hy => HP.out.z3 y (List.mem_cons_of_mem _ (cut_mem hy))) (by have h9 := cut_len x.copies k; unfold maxLen; omega)
  have e8 : d = d9 := by injection e9
  subst e8
  have HSL := iH hsl
  clear hsl HO6 HE e9
  go_wp2_with fail
  go_ret
  exact .inr ⟨{ x with copies := cutL x.copies k }, some ⟨b1, o1, none⟩, c1, d, q, HEV.out, rfl, rfl, rfl, hl1, Nat.le_trans (cut_len _ _) hl3, HK6.out, HP.out.n1.below BrtC.holds hB6 nL, HSL.out, hBp6⟩

set_option maxHeartbeats 4000000 in
set_option maxRecDepth 100000 in
theorem dropBrt_any (x : Flt) (v : Evt) (pf p m1 m2 m3 m4 b1 o1 c1 : Nat) (a2 : Option Addr) (c2 b3 o3 c3 : Nat) (am : Option Addr) (cm : Nat) (al : Option Addr) (cl lo : Nat) (W0 w : World) (H : AcPre x v pf p m1 m2 m3 m4 b1 o1 c1 a2 c2 b3 o3 c3 am cm al cl lo W0 w) (hkd : v.kind = 2) :
  Calls Tryz.prog 98 #[.pointer (some ⟨p, 0, none⟩)] w fun e w' => AcRes x v pf p a2 c2 am cm al cl lo w e w' := by
 have hl1 : x.berths.length ≤ 13 := Nat.le_trans (valid_more H.hv).1 (by omega)
 have hl3 : x.copies.length ≤ 61 := Nat.le_trans (valid_parts H.hv).2.1 (by omega)
 have HP := iH H
 have HK := iH H.hK
 have hB := H.hB
 have hbx : Below w.heap.size w (w.alloc (Obj.cells #[.pointer (some ⟨p, 0, none⟩)] 74)) := (Below.refl _ _).alloc nL _
 have hpw : p < w.heap.size := H.hK.lt
 have HPB : Hid (Blk w.heap.size #[.pointer (some ⟨p, 0, none⟩)] 74 (w.alloc (Obj.cells #[.pointer (some ⟨p, 0, none⟩)] 74))) := Blk.alloc _ _ _
 replace HK := iH (HK.out.below hbx hpw)
 replace hB := hB.trans (hbx.mono hB.size)
 have hBp : Below p w (w.alloc (Obj.cells #[.pointer (some ⟨p, 0, none⟩)] 74)) := hbx.mono (Nat.le_of_lt hpw)
 have HFF := iH (H.hF.below hbx)
 have zn := H.zn
 have HKD := iH hkd
 clear H hkd hbx
 go_enter Tryz.func98, Tryz.ntmps98
 go_upto_region 1 with fail
 generalize (w.alloc (Obj.cells #[.pointer (some ⟨p, 0, none⟩)] 74)) = w1 at *
 obtain ⟨pb, hpb⟩ : ∃ pb, pb = w.heap.size := ⟨_, rfl⟩
 rw [← hpb] at HPB ⊢
 have hpp : p < pb := by omega
 have kb : w1.cell? ⟨pb, 0, none⟩ = some (.pointer (some ⟨p, 0, none⟩)) := HPB.out.cell rfl
 have k0 : w1.cell? ⟨p, 0, none⟩ = some (.pointer (some ⟨pf, 0, none⟩)) := HK.out.cell rfl
 have kf : w1.cell? ⟨pf, 4, none⟩ = some (.map (some m1)) := HFF.out.1 4 _ rfl
 have kn : w1.cell? ⟨p, 24, none⟩ = some (.string v.name) := HK.out.cell rfl
 have yl := look_places (s := v.name) HFF.out.2.2.1.drew zn
 clear hpb hpw zn HFF
 cases hj : lastOf (brN x) v.name x.berths.length with
 | none =>
  rw [hj] at yl
  simp only [Option.isSome_none, Option.getD_none] at yl
  have HEV : Hid (evF x v = none) := by
   show evF x v = none
   simp [evF, HKD.out, hj]
  clear hj
  go_region
  go_wp2_with fail
  go_ret
  exact .inl ⟨HEV.out, rfl, hBp.drew, HK.out.drew.cell rfl⟩
 | some k =>
  obtain ⟨hkl, _⟩ := lastOf_get hj
  rw [hj] at yl
  simp only [Option.isSome_some, Option.getD_some] at yl
  have HEV : Hid (evF x v = some { x with berths := cutL x.berths k, copies := x.copies.map (awayF v.name) }) := by
   show evF x v = _
   simp [evF, HKD.out, hj]
  clear hj
  go_region
  replace hB := hB.drew
  replace hBp := hBp.drew
  replace HK := iH HK.out.drew
  replace HPB := iH HPB.out.drew
  have hpd : p < w1.drew.heap.size := HK.out.lt
  clear kb k0 kf kn yl
  generalize w1.drew = wn at *
  go_upto_region 4 with fail
  refine wp_region_until (S := fun wy => Blk p (chV pf x.pack (.slice (some ⟨b1, o1, none⟩) x.berths.length c1) (.slice a2 x.services.length c2) (.slice (some ⟨b3, o3, none⟩) x.copies.length c3) v am cm al cl) 76 wy ∧ wy.cell? ⟨pb, 0, none⟩ = some (.pointer (some ⟨p, 0, none⟩))) 11 (by kernel_rfl) ⟨HK.out.drew, HPB.out.drew.cell rfl⟩ (fun hS => ?_)
  replace hB := hB.drew
  replace hBp := hBp.drew
  replace HK := iH HK.out.drew
  replace HPB := iH HPB.out.drew
  replace hpd : p < wn.drew.heap.size := HK.out.lt
  generalize wn.drew = wm at *
  refine tv 0 ⟨some 23, _, _, _, _, none⟩ (.pointer (some ⟨p, 0, none⟩)) rfl (by rfl) ?_ hS ?_
  ·intro wy hy
   have h0 := hy.2
   clear hy
   go_simp
  simp only [pA,pB,pC,pD]
  refine tv 1 ⟨some 24, _, _, _, _, none⟩ (.pointer (some ⟨p, 0, none⟩)) rfl (by rfl) ?_ hS ?_
  ·intro wy hy
   have h0 := hy.2
   clear hy
   go_simp
  simp only [pA,pB,pC,pD]
  refine tv 2 ⟨some 25, _, _, _, _, none⟩ (.pointer (some ⟨p, 0, none⟩)) rfl (by rfl) ?_ hS ?_
  ·intro wy hy
   clear hy
   go_simp
  simp only [pA,pB,pC,pD]
  refine tv 3 ⟨some 26, _, _, _, _, none⟩ (.pointer (some ⟨p, 1, none⟩)) rfl (by rfl) ?_ hS ?_
  ·intro wy hy
   clear hy
   go_simp
  simp only [pA,pB,pC,pD]
  refine tv 4 ⟨some 27, _, _, _, _, none⟩ (.pointer (some ⟨p, 2, none⟩)) rfl (by rfl) ?_ hS ?_
  ·intro wy hy
   clear hy
   go_simp
  simp only [pA,pB,pC,pD]
  refine tv 5 ⟨some 28, _, _, _, _, none⟩ (.slice (some ⟨b1, o1, none⟩) x.berths.length c1) rfl (by rfl) ?_ hS ?_
  ·intro wy hy
   have h0 : wy.cell? ⟨p, 2, none⟩ = some (.slice (some ⟨b1, o1, none⟩) x.berths.length c1) := Blk.cell hy.1 rfl
   clear hy
   go_simp
  simp only [pA,pB,pC,pD]
  refine tv 6 ⟨some 29, _, _, _, _, none⟩ (.int .i64 k) rfl (by rfl) ?_ hS ?_
  ·intro wy hy
   clear hy
   go_simp
  simp only [pA,pB,pC,pD]
  refine ru1 7 ⟨some 30, _, _, _, _, none⟩ rfl (fun KK hKK => ?_)
  go_simp
  refine (woBrt_any x.berths b1 o1 k c1 lo W0 _ hB HP.out.n1 (by omega) HP.out.hc1 HP.out.hm1 hkl).mono ?_
  rintro e w5 ⟨vv, ds, rfl, hO, hE, hb5⟩
  obtain ⟨d, q, rfl⟩ := own_form hO
  have HO : Hid (w5.ownsRow wm.heap.size 45 6 (.slice d (cutL x.berths k).length q) (cutL x.berths k).length ds) := hO
  have HE : Hid (EAt vBr Brt.marks StrC 1 6 lo W0 ds (cutL x.berths k)) := hE
  have hB5 := hB.trans (hb5.mono hB.size)
  have hBp5 := hBp.trans (hb5.mono (Nat.le_of_lt hpd))
  have HK5 := iH (HK.out.below hb5 HK.out.lt)
  have HPB5 := iH (HPB.out.below hb5 HPB.out.lt)
  refine hKK.out _ _ ⟨HK5.out, HPB5.out.cell rfl⟩ (fun hS => ?_)
  clear hKK KK hO hE hb5 hB hBp HK HPB
  have hcl : (x.berths.take k ++ x.berths.drop (k + 1)).length = (cutL x.berths k).length := rfl
  rw [hcl]
  clear hcl
  refine wpAnyU_only (i := 8) (oi := ⟨some 31, _, _, _, _, none⟩) (v := .pointer (some ⟨p, 0, none⟩)) rfl (by kernel_rfl) (Or.inl ⟨by rfl, ?_⟩) hS ?_
  ·intro wy hy
   clear hy
   go_simp
  simp only [pA,pB,pC,pD]
  refine wpAnyU_only (i := 9) (oi := ⟨some 32, _, _, _, _, none⟩) (v := .pointer (some ⟨p, 1, none⟩)) rfl (by kernel_rfl) (Or.inl ⟨by rfl, ?_⟩) hS ?_
  ·intro wy hy
   clear hy
   go_simp
  simp only [pA,pB,pC,pD]
  refine tv 10 ⟨some 33, _, _, _, _, none⟩ (.pointer (some ⟨p, 2, none⟩)) rfl (by rfl) ?_ hS ?_
  ·intro wy hy
   clear hy
   go_simp
  simp only [pA,pB,pC,pD]
  have kz : w5.cell? ⟨p, 2, none⟩ = some (.slice (some ⟨b1, o1, none⟩) x.berths.length c1) := HK5.out.cell rfl
  have fz := HK5.out.frozen 2
  refine wpAnyU_ready (rs := [11]) (by kernel_rfl) (by simp) (AllReadyU.last (o := ⟨none, _, _, _, _, none⟩) rfl (fun KK hKK => ?_))
  go_simp
  clear kz fz
  have HK6 : Hid (Blk p (chV pf x.pack ((.slice d (cutL x.berths k).length q)) (.slice a2 x.services.length c2) (.slice (some ⟨b3, o3, none⟩) x.copies.length c3) v am cm al cl) 76 (w5.setCell ⟨p, 2, none⟩ (.slice d (cutL x.berths k).length q))) := HK5.out.set 2 _
  have HO6 := iH (kept_set (i := 2) HO.out hpd (.slice d (cutL x.berths k).length q))
  have hBp6 := below_set (i := 2) hBp5 (.slice d (cutL x.berths k).length q)
  have hB6 : Below W0.heap.size W0 (w5.setCell ⟨p, 2, none⟩ (.slice d (cutL x.berths k).length q)) := hB5.setCell (p := ⟨p, 2, none⟩) HP.out.hp _
  have HPB6 := iH (HPB5.out.other (a := ⟨p, 2, none⟩) (show pb ≠ p by omega) (.slice d (cutL x.berths k).length q))
  refine hKK.out _ _ (wpAnyU_done (by kernel_rfl) ?_ _)
  clear hKK KK hS HO HK5 HPB5 hB5 hBp5
  generalize w5.setCell ⟨p, 2, none⟩ (.slice d (cutL x.berths k).length q) = w6 at *
  go_upto_region 5 with fail
  refine wp_region_until (S := fun wy => Blk p (chV pf x.pack ((.slice d (cutL x.berths k).length q)) (.slice a2 x.services.length c2) (.slice (some ⟨b3, o3, none⟩) x.copies.length c3) v am cm al cl) 76 wy ∧ wy.cell? ⟨pb, 0, none⟩ = some (.pointer (some ⟨p, 0, none⟩))) 11 (by kernel_rfl) ⟨HK6.out.drew, HPB6.out.drew.cell rfl⟩ (fun hS => ?_)
  have HK7 := iH HK6.out.drew
  have HPB7 := iH HPB6.out.drew
  have HO7 := iH HO6.out.drew
  have hB7 := hB6.drew
  have hBp7 := hBp6.drew
  have hpd7 : p < w6.drew.heap.size := HK7.out.lt
  clear HK6 HPB6 HO6 hB6 hBp6
  generalize w6.drew = w7 at *
  refine tv 0 ⟨some 34, _, _, _, _, none⟩ (.pointer (some ⟨p, 0, none⟩)) rfl (by rfl) ?_ hS ?_
  ·intro wy hy
   have h0 := hy.2
   clear hy
   go_simp
  simp only [pA,pB,pC,pD]
  refine tv 1 ⟨some 35, _, _, _, _, none⟩ (.pointer (some ⟨p, 0, none⟩)) rfl (by rfl) ?_ hS ?_
  ·intro wy hy
   have h0 := hy.2
   clear hy
   go_simp
  simp only [pA,pB,pC,pD]
  refine tv 2 ⟨some 36, _, _, _, _, none⟩ (.pointer (some ⟨p, 0, none⟩)) rfl (by rfl) ?_ hS ?_
  ·intro wy hy
   clear hy
   go_simp
  simp only [pA,pB,pC,pD]
  refine tv 3 ⟨some 37, _, _, _, _, none⟩ (.pointer (some ⟨p, 1, none⟩)) rfl (by rfl) ?_ hS ?_
  ·intro wy hy
   clear hy
   go_simp
  simp only [pA,pB,pC,pD]
  refine tv 4 ⟨some 38, _, _, _, _, none⟩ (.pointer (some ⟨p, 4, none⟩)) rfl (by rfl) ?_ hS ?_
  ·intro wy hy
   clear hy
   go_simp
  simp only [pA,pB,pC,pD]
  refine tv 5 ⟨some 39, _, _, _, _, none⟩ (.slice (some ⟨b3, o3, none⟩) x.copies.length c3) rfl (by rfl) ?_ hS ?_
  ·intro wy hy
   have h0 : wy.cell? ⟨p, 4, none⟩ = some (.slice (some ⟨b3, o3, none⟩) x.copies.length c3) := Blk.cell hy.1 rfl
   clear hy
   go_simp
  simp only [pA,pB,pC,pD]
  refine tv 6 ⟨some 40, _, _, _, _, none⟩ (.func (.func 122) #[] #[.pointer (some ⟨pb, 0, none⟩)]) rfl (by rfl) ?_ hS ?_
  ·intro wy hy
   clear hy
   go_simp
  simp only [pA,pB,pC,pD]
  refine ru1 7 ⟨some 41, _, _, _, _, none⟩ rfl (fun KK hKK => ?_)
  go_simp
  refine (eachAway_any x.copies v.name b3 o3 c3 lo pb p W0 _ hB7 HP.out.n3 (by omega) (HPB7.out.cell rfl) (HK7.out.cell rfl)).mono ?_
  rintro e w8 ⟨vv, es, rfl, hO, hE, hb8⟩
  obtain ⟨d2, q2, rfl⟩ := own_form hO
  rw [List.length_map] at hO ⊢
  have HOc := iH hO
  have HEc := iH hE
  have hB8 := hB7.trans (hb8.mono hB7.size)
  have hBp8 := hBp7.trans (hb8.mono (Nat.le_of_lt hpd7))
  have HK8 := iH (HK7.out.below hb8 HK7.out.lt)
  have HPB8 := iH (HPB7.out.below hb8 HPB7.out.lt)
  have HO8 := iH (ownsRow_below HO7.out hb8)
  refine hKK.out _ _ ⟨HK8.out, HPB8.out.cell rfl⟩ (fun hS => ?_)
  clear hKK KK hO hE hb8 hB7 hBp7 HK7 HPB7 HO7
  refine wpAnyU_only (i := 8) (oi := ⟨some 42, _, _, _, _, none⟩) (v := .pointer (some ⟨p, 0, none⟩)) rfl (by kernel_rfl) (Or.inl ⟨by rfl, ?_⟩) hS ?_
  ·intro wy hy
   clear hy
   go_simp
  simp only [pA,pB,pC,pD]
  refine wpAnyU_only (i := 9) (oi := ⟨some 43, _, _, _, _, none⟩) (v := .pointer (some ⟨p, 1, none⟩)) rfl (by kernel_rfl) (Or.inl ⟨by rfl, ?_⟩) hS ?_
  ·intro wy hy
   clear hy
   go_simp
  simp only [pA,pB,pC,pD]
  refine tv 10 ⟨some 44, _, _, _, _, none⟩ (.pointer (some ⟨p, 4, none⟩)) rfl (by rfl) ?_ hS ?_
  ·intro wy hy
   clear hy
   go_simp
  simp only [pA,pB,pC,pD]
  have kz : w8.cell? ⟨p, 4, none⟩ = some (.slice (some ⟨b3, o3, none⟩) x.copies.length c3) := HK8.out.cell rfl
  have fz := HK8.out.frozen 4
  refine wpAnyU_ready (rs := [11]) (by kernel_rfl) (by simp) (AllReadyU.last (o := ⟨none, _, _, _, _, none⟩) rfl (fun KK hKK => ?_))
  go_simp
  clear kz fz
  have HK9 : Hid (Blk p (chV pf x.pack ((.slice d (cutL x.berths k).length q)) (.slice a2 x.services.length c2) ((.slice d2 x.copies.length q2)) v am cm al cl) 76 (w8.setCell ⟨p, 4, none⟩ (.slice d2 x.copies.length q2))) := HK8.out.set 4 _
  have HO9 := iH (kept_set (i := 4) HO8.out hpd (.slice d2 x.copies.length q2))
  have HOc9 := iH (kept_set (i := 4) HOc.out hpd7 (.slice d2 x.copies.length q2))
  have hBp9 := below_set (i := 4) hBp8 (.slice d2 x.copies.length q2)
  have hB9 : Below W0.heap.size W0 (w8.setCell ⟨p, 4, none⟩ (.slice d2 x.copies.length q2)) := hB8.setCell (p := ⟨p, 4, none⟩) HP.out.hp _
  refine hKK.out _ _ (wpAnyU_done (by kernel_rfl) ?_ _)
  clear hKK KK hS HO8 HOc HK8 HPB8 hB8 hBp8
  generalize w8.setCell ⟨p, 4, none⟩ (.slice d2 x.copies.length q2) = w9 at *
  obtain ⟨d9, q9, e9, hsl⟩ := rowBrt HO9.out (Nat.le_trans HP.out.hlo (Nat.le_trans HP.out.hp (Nat.le_of_lt hpd))) (HE.out.below StrC.holds hB9 nL) (fun y hy => HP.out.z1 y (List.mem_cons_of_mem _ (cut_mem hy))) (by have h9 := cut_len x.berths k; unfold maxLen; omega)
  have e8 : d = d9 := by injection e9
  subst e8
  have HSL := iH hsl
  clear hsl HO9 HE e9
  obtain ⟨d9, q9, e9, hsl⟩ := rowCpy (l := x.copies.map (awayF v.name)) (by rw [List.length_map]; exact HOc9.out) (Nat.le_trans HP.out.hlo (Nat.le_trans HP.out.hp (Nat.le_of_lt hpd7))) (HEc.out.below LikC.holds hB9 nL) (away_sz (fun y hy => HP.out.z3 y (List.mem_cons_of_mem _ hy))) (by rw [List.length_map]; unfold maxLen; omega)
  have e8 : d2 = d9 := by injection e9
  subst e8
  have HSC := iH hsl
  clear hsl HOc9 HEc e9
  go_wp2_with fail
  go_ret
  exact .inr ⟨{ x with berths := cutL x.berths k, copies := x.copies.map (awayF v.name) }, d, q, d2, q2, HEV.out, rfl, rfl, rfl, Nat.le_trans (cut_len _ _) hl1, (by show (x.copies.map (awayF v.name)).length ≤ 61; rw [List.length_map]; exact hl3), (by have h := HK9.out; rw [show x.copies.length = (x.copies.map (awayF v.name)).length from (List.length_map _).symm] at h; exact h), HSL.out, HSC.out, hBp9⟩

end Go.Proofs.YtihnjndnkgnmaaaGreat
