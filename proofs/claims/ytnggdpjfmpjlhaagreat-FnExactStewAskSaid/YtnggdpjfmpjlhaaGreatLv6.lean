import Derived.Test.YtnggdpjfmpjlhaaGreatTkw
import Derived.Test.YtnggdpjfmpjlhaaGreatJ39
import Derived.Test.YtnggdpjfmpjlhaaGreatLv5
namespace Go.Proofs.YtnggdpjfmpjlhaaGreat
open Go.RowKit
attribute [local go_sem] Oper.semAt_some

def cZ : Scp := ⟨⟨#[]⟩, 0, 0, 0, 0, false, ⟨#[]⟩⟩
def bestC (x : Sbk) (im : Int) : List Scp → Scp
 | [] => cZ
 | c :: r => r.foldl (fun b d => if soonB x d b im = true then d else b) c

theorem bestC_snoc (x : Sbk) (im : Int) (l : List Scp) (hl : l ≠ []) (c : Scp) : bestC x im (l ++ [c]) = if soonB x c (bestC x im l) im = true then c else bestC x im l := by
 cases l with
 | nil => exact absurd rfl hl
 | cons d r =>
  show (r ++ [c]).foldl _ d = _
  rw [List.foldl_append]
  rfl
theorem bestC_mem (x : Sbk) (im : Int) : ∀ l : List Scp, l ≠ [] → bestC x im l ∈ l := by
 intro l hl
 cases l with
 | nil => exact absurd rfl hl
 | cons d r =>
  have : ∀ (r : List Scp) (b : Scp) (A : List Scp), b ∈ A → r.foldl (fun b d => if soonB x d b im = true then d else b) b ∈ A ++ r := by
   intro r
   induction r with
   | nil => intro b A h; simpa using h
   | cons e r ih =>
    intro b A h
    have := ih (if soonB x e b im = true then e else b) (A ++ [e]) (by split <;> simp [h])
    simpa using this
  exact this r d [d] (by simp)
theorem map_mem {x : Sbk} {l : List (CpX x)} {c : Scp} (h : c ∈ l.map (·.1)) : c ∈ x.copies := by
 obtain ⟨d, _, rfl⟩ := List.mem_map.1 h
 exact d.2

def bcA (c : Scp) : Array Value := #[.string c.service, .int .i64 c.number, .int .i64 c.version, .int .i64 c.image, .int .i64 c.state, .bool c.ending, .string c.berth]

theorem grown_setCells (b : Nat) : ∀ (vs : List Value) (o : Nat) (w : World), w.grownBy (w.setCells b o vs) (some b)
 | [], _, w => ⟨rfl, rfl, rfl, Nat.le_refl _, fun _ _ _ => rfl⟩
 | u :: r, o, w => by
  have h := grown_setCells b r (o + 1) (w.setCell ⟨b, o, none⟩ u)
  have hs : (w.setCell ⟨b, o, none⟩ u).heap.size = w.heap.size := by simp
  exact ⟨h.os, h.tape, h.output, by rw [← hs]; exact h.size, fun k hk hne => (h.block k (by rw [hs]; exact hk) hne).trans (Below.heap_setCell _ _ _ _ (fun e => hne (by rw [e])))⟩

set_option maxHeartbeats 8000000 in
set_option maxRecDepth 100000 in
theorem best_any (x : Sbk) (a1 : Option Addr) (c1 : Nat) (b2 o2 c2 : Nat) (a3 : Option Addr) (c3 : Nat) (p m n lo q : Nat) (Wb : World) (v : Ssv) (Bq Bi f : Nat) (bd : Array Value) (qf : Scp → Bool) (w : World)
  (hF : FndS x a1 c1 (some ⟨b2, o2, none⟩) c2 a3 c3 p m n lo Wb) (hv : SVal x) (hcap : x.copies.length ≤ c2) (hK : SgK x p q Wb v w) (hq : Blk Bq #[.pointer (some ⟨q, 0, none⟩)] 62 w) (hi : Blk Bi #[.func (.func f) bd #[]] 115 w) (hsay : IsF x p q Wb v f bd qf) (heg : ∀ args w, (callFunc f args).run Tryz.prog w = .ok (.enter f args) w) :
  Calls Tryz.prog 138 #[.func (.func 83) #[] #[.pointer (some ⟨Bq, 0, none⟩), .pointer (some ⟨Bi, 0, none⟩)], .func (.func 139) #[.pointer (some ⟨q, 0, none⟩)] #[]] w fun e w' => e = .returned (.tuple #[.agg (bcA (bestC x v.image (lvF x v.name qf))), .bool (!(lvF x v.name qf).isEmpty)]) ∧ Below w.heap.size w w' := by
 have HF := Hid.intro hF
 have HV := Hid.intro hv
 have HCAP := Hid.intro hcap
 have HSAY := Hid.intro hsay
 have hWb : Wb.heap.size ≤ w.heap.size := by obtain ⟨_, h, _⟩ := hK; exact h.size
 have hql : q < w.heap.size := by obtain ⟨_, _, h⟩ := hK; exact h.lt
 have hb4 : Below w.heap.size w ((((w.alloc (Obj.cells #[.func (.func 139) #[.pointer (some ⟨q, 0, none⟩)] #[]] 88)).alloc (Obj.cells #[.string ⟨#[]⟩, .int .i64 0, .int .i64 0, .int .i64 0, .int .i64 0, .bool false, .string ⟨#[]⟩] 87)).alloc (Obj.cells #[.string ⟨#[]⟩, .int .i64 0, .int .i64 0, .int .i64 0, .int .i64 0, .bool false, .string ⟨#[]⟩] 87)).alloc (Obj.cells #[.bool false] 4)) := by go_grown
 have HQ4 := Hid.intro (hq.below hb4 hq.lt)
 have HI4 := Hid.intro (hi.below hb4 hi.lt)
 have HK4 := Hid.intro (hK.below hb4)
 have z1 : (w.alloc (Obj.cells #[.func (.func 139) #[.pointer (some ⟨q, 0, none⟩)] #[]] 88)).heap.size = w.heap.size + 1 := by simp
 have z2 : ((w.alloc (Obj.cells #[.func (.func 139) #[.pointer (some ⟨q, 0, none⟩)] #[]] 88)).alloc (Obj.cells #[.string ⟨#[]⟩, .int .i64 0, .int .i64 0, .int .i64 0, .int .i64 0, .bool false, .string ⟨#[]⟩] 87)).heap.size = w.heap.size + 1 + 1 := by simp
 have z3 : (((w.alloc (Obj.cells #[.func (.func 139) #[.pointer (some ⟨q, 0, none⟩)] #[]] 88)).alloc (Obj.cells #[.string ⟨#[]⟩, .int .i64 0, .int .i64 0, .int .i64 0, .int .i64 0, .bool false, .string ⟨#[]⟩] 87)).alloc (Obj.cells #[.string ⟨#[]⟩, .int .i64 0, .int .i64 0, .int .i64 0, .int .i64 0, .bool false, .string ⟨#[]⟩] 87)).heap.size = w.heap.size + 1 + 1 + 1 := by simp
 have hx1 : Blk w.heap.size #[.func (.func 139) #[.pointer (some ⟨q, 0, none⟩)] #[]] 88 (w.alloc (Obj.cells #[.func (.func 139) #[.pointer (some ⟨q, 0, none⟩)] #[]] 88)) := Blk.alloc _ _ _
 have hx2 : Blk (w.heap.size + 1) #[.string ⟨#[]⟩, .int .i64 0, .int .i64 0, .int .i64 0, .int .i64 0, .bool false, .string ⟨#[]⟩] 87 ((w.alloc (Obj.cells #[.func (.func 139) #[.pointer (some ⟨q, 0, none⟩)] #[]] 88)).alloc (Obj.cells #[.string ⟨#[]⟩, .int .i64 0, .int .i64 0, .int .i64 0, .int .i64 0, .bool false, .string ⟨#[]⟩] 87)) := by have := Blk.alloc (w.alloc (Obj.cells #[.func (.func 139) #[.pointer (some ⟨q, 0, none⟩)] #[]] 88)) #[.string ⟨#[]⟩, .int .i64 0, .int .i64 0, .int .i64 0, .int .i64 0, .bool false, .string ⟨#[]⟩] 87; rw [z1] at this; exact this
 have hx3 : Blk (w.heap.size + 1 + 1) #[.string ⟨#[]⟩, .int .i64 0, .int .i64 0, .int .i64 0, .int .i64 0, .bool false, .string ⟨#[]⟩] 87 (((w.alloc (Obj.cells #[.func (.func 139) #[.pointer (some ⟨q, 0, none⟩)] #[]] 88)).alloc (Obj.cells #[.string ⟨#[]⟩, .int .i64 0, .int .i64 0, .int .i64 0, .int .i64 0, .bool false, .string ⟨#[]⟩] 87)).alloc (Obj.cells #[.string ⟨#[]⟩, .int .i64 0, .int .i64 0, .int .i64 0, .int .i64 0, .bool false, .string ⟨#[]⟩] 87)) := by have := Blk.alloc ((w.alloc (Obj.cells #[.func (.func 139) #[.pointer (some ⟨q, 0, none⟩)] #[]] 88)).alloc (Obj.cells #[.string ⟨#[]⟩, .int .i64 0, .int .i64 0, .int .i64 0, .int .i64 0, .bool false, .string ⟨#[]⟩] 87)) #[.string ⟨#[]⟩, .int .i64 0, .int .i64 0, .int .i64 0, .int .i64 0, .bool false, .string ⟨#[]⟩] 87; rw [z2] at this; exact this
 have hx4 : Blk (w.heap.size + 1 + 1 + 1) #[.bool false] 4 ((((w.alloc (Obj.cells #[.func (.func 139) #[.pointer (some ⟨q, 0, none⟩)] #[]] 88)).alloc (Obj.cells #[.string ⟨#[]⟩, .int .i64 0, .int .i64 0, .int .i64 0, .int .i64 0, .bool false, .string ⟨#[]⟩] 87)).alloc (Obj.cells #[.string ⟨#[]⟩, .int .i64 0, .int .i64 0, .int .i64 0, .int .i64 0, .bool false, .string ⟨#[]⟩] 87)).alloc (Obj.cells #[.bool false] 4)) := by have := Blk.alloc (((w.alloc (Obj.cells #[.func (.func 139) #[.pointer (some ⟨q, 0, none⟩)] #[]] 88)).alloc (Obj.cells #[.string ⟨#[]⟩, .int .i64 0, .int .i64 0, .int .i64 0, .int .i64 0, .bool false, .string ⟨#[]⟩] 87)).alloc (Obj.cells #[.string ⟨#[]⟩, .int .i64 0, .int .i64 0, .int .i64 0, .int .i64 0, .bool false, .string ⟨#[]⟩] 87)) #[.bool false] 4; rw [z3] at this; exact this
 have g4 : Below (((w.alloc (Obj.cells #[.func (.func 139) #[.pointer (some ⟨q, 0, none⟩)] #[]] 88)).alloc (Obj.cells #[.string ⟨#[]⟩, .int .i64 0, .int .i64 0, .int .i64 0, .int .i64 0, .bool false, .string ⟨#[]⟩] 87)).alloc (Obj.cells #[.string ⟨#[]⟩, .int .i64 0, .int .i64 0, .int .i64 0, .int .i64 0, .bool false, .string ⟨#[]⟩] 87)).heap.size (((w.alloc (Obj.cells #[.func (.func 139) #[.pointer (some ⟨q, 0, none⟩)] #[]] 88)).alloc (Obj.cells #[.string ⟨#[]⟩, .int .i64 0, .int .i64 0, .int .i64 0, .int .i64 0, .bool false, .string ⟨#[]⟩] 87)).alloc (Obj.cells #[.string ⟨#[]⟩, .int .i64 0, .int .i64 0, .int .i64 0, .int .i64 0, .bool false, .string ⟨#[]⟩] 87)) ((((w.alloc (Obj.cells #[.func (.func 139) #[.pointer (some ⟨q, 0, none⟩)] #[]] 88)).alloc (Obj.cells #[.string ⟨#[]⟩, .int .i64 0, .int .i64 0, .int .i64 0, .int .i64 0, .bool false, .string ⟨#[]⟩] 87)).alloc (Obj.cells #[.string ⟨#[]⟩, .int .i64 0, .int .i64 0, .int .i64 0, .int .i64 0, .bool false, .string ⟨#[]⟩] 87)).alloc (Obj.cells #[.bool false] 4)) := (Below.refl _ _).alloc (Nat.le_refl _) _
 have g3 : Below ((w.alloc (Obj.cells #[.func (.func 139) #[.pointer (some ⟨q, 0, none⟩)] #[]] 88)).alloc (Obj.cells #[.string ⟨#[]⟩, .int .i64 0, .int .i64 0, .int .i64 0, .int .i64 0, .bool false, .string ⟨#[]⟩] 87)).heap.size ((w.alloc (Obj.cells #[.func (.func 139) #[.pointer (some ⟨q, 0, none⟩)] #[]] 88)).alloc (Obj.cells #[.string ⟨#[]⟩, .int .i64 0, .int .i64 0, .int .i64 0, .int .i64 0, .bool false, .string ⟨#[]⟩] 87)) ((((w.alloc (Obj.cells #[.func (.func 139) #[.pointer (some ⟨q, 0, none⟩)] #[]] 88)).alloc (Obj.cells #[.string ⟨#[]⟩, .int .i64 0, .int .i64 0, .int .i64 0, .int .i64 0, .bool false, .string ⟨#[]⟩] 87)).alloc (Obj.cells #[.string ⟨#[]⟩, .int .i64 0, .int .i64 0, .int .i64 0, .int .i64 0, .bool false, .string ⟨#[]⟩] 87)).alloc (Obj.cells #[.bool false] 4)) := ((Below.refl _ _).alloc (Nat.le_refl _) _).trans (g4.mono (by rw [z2, z3]; omega))
 have g2 : Below (w.alloc (Obj.cells #[.func (.func 139) #[.pointer (some ⟨q, 0, none⟩)] #[]] 88)).heap.size (w.alloc (Obj.cells #[.func (.func 139) #[.pointer (some ⟨q, 0, none⟩)] #[]] 88)) ((((w.alloc (Obj.cells #[.func (.func 139) #[.pointer (some ⟨q, 0, none⟩)] #[]] 88)).alloc (Obj.cells #[.string ⟨#[]⟩, .int .i64 0, .int .i64 0, .int .i64 0, .int .i64 0, .bool false, .string ⟨#[]⟩] 87)).alloc (Obj.cells #[.string ⟨#[]⟩, .int .i64 0, .int .i64 0, .int .i64 0, .int .i64 0, .bool false, .string ⟨#[]⟩] 87)).alloc (Obj.cells #[.bool false] 4)) := ((Below.refl _ _).alloc (Nat.le_refl _) _).trans (g3.mono (by rw [z1, z2]; omega))
 have HB4 : Hid (Blk w.heap.size #[.func (.func 139) #[.pointer (some ⟨q, 0, none⟩)] #[]] 88 ((((w.alloc (Obj.cells #[.func (.func 139) #[.pointer (some ⟨q, 0, none⟩)] #[]] 88)).alloc (Obj.cells #[.string ⟨#[]⟩, .int .i64 0, .int .i64 0, .int .i64 0, .int .i64 0, .bool false, .string ⟨#[]⟩] 87)).alloc (Obj.cells #[.string ⟨#[]⟩, .int .i64 0, .int .i64 0, .int .i64 0, .int .i64 0, .bool false, .string ⟨#[]⟩] 87)).alloc (Obj.cells #[.bool false] 4))) := hx1.below g2 hx1.lt
 have HR4 : Hid (Blk (w.heap.size + 1) #[.string ⟨#[]⟩, .int .i64 0, .int .i64 0, .int .i64 0, .int .i64 0, .bool false, .string ⟨#[]⟩] 87 ((((w.alloc (Obj.cells #[.func (.func 139) #[.pointer (some ⟨q, 0, none⟩)] #[]] 88)).alloc (Obj.cells #[.string ⟨#[]⟩, .int .i64 0, .int .i64 0, .int .i64 0, .int .i64 0, .bool false, .string ⟨#[]⟩] 87)).alloc (Obj.cells #[.string ⟨#[]⟩, .int .i64 0, .int .i64 0, .int .i64 0, .int .i64 0, .bool false, .string ⟨#[]⟩] 87)).alloc (Obj.cells #[.bool false] 4))) := hx2.below g3 hx2.lt
 have HT4 : Hid (Blk (w.heap.size + 1 + 1) (bcA (bestC x v.image [])) 87 ((((w.alloc (Obj.cells #[.func (.func 139) #[.pointer (some ⟨q, 0, none⟩)] #[]] 88)).alloc (Obj.cells #[.string ⟨#[]⟩, .int .i64 0, .int .i64 0, .int .i64 0, .int .i64 0, .bool false, .string ⟨#[]⟩] 87)).alloc (Obj.cells #[.string ⟨#[]⟩, .int .i64 0, .int .i64 0, .int .i64 0, .int .i64 0, .bool false, .string ⟨#[]⟩] 87)).alloc (Obj.cells #[.bool false] 4))) := hx3.below g4 hx3.lt
 have HS4 : Hid (Blk (w.heap.size + 1 + 1 + 1) #[.bool false] 4 ((((w.alloc (Obj.cells #[.func (.func 139) #[.pointer (some ⟨q, 0, none⟩)] #[]] 88)).alloc (Obj.cells #[.string ⟨#[]⟩, .int .i64 0, .int .i64 0, .int .i64 0, .int .i64 0, .bool false, .string ⟨#[]⟩] 87)).alloc (Obj.cells #[.string ⟨#[]⟩, .int .i64 0, .int .i64 0, .int .i64 0, .int .i64 0, .bool false, .string ⟨#[]⟩] 87)).alloc (Obj.cells #[.bool false] 4))) := hx4
 clear hF hv hcap hsay hK hq hi hx1 hx2 hx3 hx4 g2 g3 g4 z1 z2 z3
 refine (callsIn_wide (n := 7)).1 ?_
 refine callsIn_of_wp_marks Tryz.func138 rfl trivial ?_ rfl
 refine wpIn_wide.2 ?_
 simp only [Tryz.ntmps138, List.size_toArray, List.length_cons, List.length_nil, Nat.reduceAdd, Nat.reduceSub, Array.replicate_succ, Array.replicate_zero, List.push_toArray, List.append_toArray, List.nil_append, List.cons_append]
 go_upto_region 3 with fail
 generalize (((w.alloc (Obj.cells #[.func (.func 139) #[.pointer (some ⟨q, 0, none⟩)] #[]] 88)).alloc (Obj.cells #[.string ⟨#[]⟩, .int .i64 0, .int .i64 0, .int .i64 0, .int .i64 0, .bool false, .string ⟨#[]⟩] 87)).alloc (Obj.cells #[.string ⟨#[]⟩, .int .i64 0, .int .i64 0, .int .i64 0, .int .i64 0, .bool false, .string ⟨#[]⟩] 87)).alloc (Obj.cells #[.bool false] 4) = w4 at *
 have hr1 : w.heap.size < w.heap.size + 1 := by omega
 have hr2 : w.heap.size + 1 < w.heap.size + 1 + 1 := by omega
 have hr3 : w.heap.size + 1 + 1 < w.heap.size + 1 + 1 + 1 := by omega
 have hr4 : w.heap.size + 1 + 1 + 1 < w4.heap.size := HS4.out.lt
 generalize w.heap.size + 1 + 1 + 1 = gS at *
 generalize w.heap.size + 1 + 1 = gT at *
 generalize w.heap.size + 1 = gR at *
 have HW4 : Hid (Below Wb.heap.size Wb w4) := by obtain ⟨_, h, _⟩ := HK4.out; exact h
 go_wp2_with fail
 refine wpIn_wide.1 (range_all (n := 6) (fun k => k = gT ∨ k = gS) (SgK x p q Wb v) (gf := 83) (lb := #[.pointer (some ⟨Bq, 0, none⟩), .pointer (some ⟨Bi, 0, none⟩)]) rfl (enters_of Tryz.func83 (by kernel_rfl) rfl)
  (live_all x a1 c1 b2 o2 c2 a3 c3 p m n lo q Wb v Bq Bi f bd qf (fun k => k = gT ∨ k = gS) w4.heap.size w4 HF.out HV.out HCAP.out HQ4.out HI4.out HW4.out HW4.out.size (fun k e => by omega) HSAY.out heg) (fun _ => rfl)
  (fun pre W' => SgK x p q Wb v W' ∧ Blk w.heap.size #[.func (.func 139) #[.pointer (some ⟨q, 0, none⟩)] #[]] 88 W' ∧ Blk gR #[.string ⟨#[]⟩, .int .i64 0, .int .i64 0, .int .i64 0, .int .i64 0, .bool false, .string ⟨#[]⟩] 87 W' ∧ Blk gT (bcA (bestC x v.image (pre.map (·.1)))) 87 W' ∧ Blk gS #[.bool (!pre.isEmpty)] 4 W' ∧ Below w.heap.size w W' ∧ w4.heap.size ≤ W'.heap.size) ?_ (fun _ _ h => h.1) ?_
  (fun c a' W' => ∃ Bx, w4.heap.size ≤ Bx ∧ Blk Bx #[.string c.1.service, .int .i64 c.1.number, .int .i64 c.1.version, .int .i64 c.1.image, .int .i64 c.1.state, .bool c.1.ending, .string c.1.berth] 87 W' ∧ a' = { tmps := #[.func (.func 83) #[] #[.pointer (some ⟨Bq, 0, none⟩), .pointer (some ⟨Bi, 0, none⟩)], .func (.func 139) #[.pointer (some ⟨q, 0, none⟩)] #[], undef, .pointer (some ⟨w.heap.size, 0, none⟩), .pointer (some ⟨gR, 0, none⟩), .bool false, .pointer (some ⟨gT, 0, none⟩), .pointer (some ⟨gS, 0, none⟩), .pointer (some ⟨Bx, 0, none⟩), .func (.func 83) #[] #[.pointer (some ⟨Bq, 0, none⟩), .pointer (some ⟨Bi, 0, none⟩)], .agg #[.string c.1.service, .int .i64 c.1.number, .int .i64 c.1.version, .int .i64 c.1.image, .int .i64 c.1.state, .bool c.1.ending, .string c.1.berth], undef, undef, undef, undef, undef, undef, undef, undef, undef, undef, undef], defers := [] }) ?_ ?_ ?_ ?_)
 ·rintro s A B row ⟨h1, h2, h3, h4, h5, h6, h7⟩ hgr hr
  have hne : ∀ k, k < w4.heap.size → some k ≠ row := fun k hk e => by have := (hr _ e.symm).1; omega
  exact ⟨h1.grown hgr (fun r e => ⟨by have := (hr r e).1; omega, by have := (hr r e).1; omega⟩), h2.grown hgr (hne _ (by omega)), h3.grown hgr (hne _ (by omega)), h4.grown hgr (hne _ (by omega)), h5.grown hgr (hne _ (by omega)), h6.grown hgr h6.size (fun k e => by have := (hr k e).1; omega), Nat.le_trans h7 hgr.size⟩
 ·exact ⟨HK4.out, HB4.out, HR4.out, HT4.out, HS4.out, hb4, Nat.le_refl _⟩
 ·rintro c a' _ A B row ⟨Bx, h1, h2, h3⟩ hgr hr
  refine ⟨Bx, h1, h2.grown hgr (fun e => ?_), h3⟩
  obtain ⟨_, ob, ho, hc⟩ := hr _ e.symm
  rw [show A.heap[Bx]? = _ from h2] at ho
  cases ho
  cases hc
 ·rintro l' pre c W' K ⟨h1, h2, h3, h4, h5, h6, h7⟩ hK
  have hKK := Hid.intro hK
  have H1 := Hid.intro h1
  have H2 := Hid.intro h2
  have H3 := Hid.intro h3
  have H4 := Hid.intro h4
  have H5 := Hid.intro h5
  have H6 := Hid.intro h6
  clear hK h1 h2 h3 h4 h5 h6
  have hza : Blk W'.heap.size #[.string ⟨#[]⟩, .int .i64 0, .int .i64 0, .int .i64 0, .int .i64 0, .bool false, .string ⟨#[]⟩] 87 (W'.alloc (Obj.cells #[.string ⟨#[]⟩, .int .i64 0, .int .i64 0, .int .i64 0, .int .i64 0, .bool false, .string ⟨#[]⟩] 87)) := Blk.alloc _ _ _
  have HTS : Hid ((W'.alloc (Obj.cells #[.string ⟨#[]⟩, .int .i64 0, .int .i64 0, .int .i64 0, .int .i64 0, .bool false, .string ⟨#[]⟩] 87)).there W'.heap.size 0 7) := hza.there
  obtain ⟨wz, HWZ⟩ : ∃ wz, Hid (wz = (W'.alloc (Obj.cells #[.string ⟨#[]⟩, .int .i64 0, .int .i64 0, .int .i64 0, .int .i64 0, .bool false, .string ⟨#[]⟩] 87)).setCells W'.heap.size 0 [.string c.1.service, .int .i64 c.1.number, .int .i64 c.1.version, .int .i64 c.1.image, .int .i64 c.1.state, .bool c.1.ending, .string c.1.berth]) := ⟨_, rfl⟩
  have HKZ : Hid (Blk W'.heap.size #[.string c.1.service, .int .i64 c.1.number, .int .i64 c.1.version, .int .i64 c.1.image, .int .i64 c.1.state, .bool c.1.ending, .string c.1.berth] 87 wz) := by
   show Blk _ _ _ _
   rw [HWZ.out]
   exact hza.setAll #[.string c.1.service, .int .i64 c.1.number, .int .i64 c.1.version, .int .i64 c.1.image, .int .i64 c.1.state, .bool c.1.ending, .string c.1.berth] rfl
  have hbz : Below W'.heap.size W' wz := by
   rw [HWZ.out]
   exact below_setCells (Nat.le_refl _) _ _ _ ((Below.refl _ W').alloc (Nat.le_refl _) _)
  have HBZ := Hid.intro hbz
  clear hza hbz
  gi_wp2_with (refine wpListIn_store_to rfl 87 _ _ rfl W'.heap.size 0 #[.string c.1.service, .int .i64 c.1.number, .int .i64 c.1.version, .int .i64 c.1.image, .int .i64 c.1.state, .bool c.1.ending, .string c.1.berth] rfl rfl HTS.out isz_Scp (by simp [Value.oneCell']) wz HWZ.out ?_)
  have hbz := HBZ.out
  exact hKK.out _ _ (KeepsFrom.of_below hbz) (KpT.of_below hbz h7) ⟨H1.out.below hbz, H2.out.below hbz H2.out.lt, H3.out.below hbz H3.out.lt, H4.out.below hbz H4.out.lt, H5.out.below hbz H5.out.lt, H6.out.trans (hbz.mono H6.out.size), Nat.le_trans h7 hbz.size⟩ ⟨W'.heap.size, h7, HKZ.out, rfl⟩
 ·rintro l' pre c a' W' ⟨h1, h2, h3, h4, h5, h6, h7⟩ ⟨Bx, hBx, hbx, rfl⟩ hlt'
  have HNE : Hid ((!(pre ++ [c]).isEmpty) = true) := by show _ = _; cases pre <;> rfl
  refine wpIn_block ?_
  have y0 : W'.cell? ⟨Bx, 0, none⟩ = some (.string c.1.service) := hbx.cell rfl
  have y1 : W'.cell? ⟨Bx, 1, none⟩ = some (.int .i64 c.1.number) := hbx.cell rfl
  have y2 : W'.cell? ⟨Bx, 2, none⟩ = some (.int .i64 c.1.version) := hbx.cell rfl
  have y3 : W'.cell? ⟨Bx, 3, none⟩ = some (.int .i64 c.1.image) := hbx.cell rfl
  have y4 : W'.cell? ⟨Bx, 4, none⟩ = some (.int .i64 c.1.state) := hbx.cell rfl
  have y5 : W'.cell? ⟨Bx, 5, none⟩ = some (.bool c.1.ending) := hbx.cell rfl
  have y6 : W'.cell? ⟨Bx, 6, none⟩ = some (.string c.1.berth) := hbx.cell rfl
  have yS : W'.cell? ⟨gS, 0, none⟩ = some (.bool (!pre.isEmpty)) := h5.cell rfl
  have yB : W'.cell? ⟨w.heap.size, 0, none⟩ = some (.func (.func 139) #[.pointer (some ⟨q, 0, none⟩)] #[]) := h2.cell rfl
  by_cases hpe : pre = []
  ·subst hpe
   have HEB : Hid (bestC x v.image (([] ++ [c] : List (CpX x)).map (·.1)) = c.1) := rfl
   have yS : W'.cell? ⟨gS, 0, none⟩ = some (.bool false) := yS
   gi_wp2_with fail
   refine ⟨fun _ h => (by cases h), ?_⟩
   obtain ⟨wt, HWT⟩ : ∃ wt, Hid (wt = W'.setCells gT 0 [.string c.1.service, .int .i64 c.1.number, .int .i64 c.1.version, .int .i64 c.1.image, .int .i64 c.1.state, .bool c.1.ending, .string c.1.berth]) := ⟨_, rfl⟩
   have HTT := Hid.intro h4.there
   have hT1 : Blk gT #[.string c.1.service, .int .i64 c.1.number, .int .i64 c.1.version, .int .i64 c.1.image, .int .i64 c.1.state, .bool c.1.ending, .string c.1.berth] 87 wt := by rw [HWT.out]; exact h4.setAll #[.string c.1.service, .int .i64 c.1.number, .int .i64 c.1.version, .int .i64 c.1.image, .int .i64 c.1.state, .bool c.1.ending, .string c.1.berth] rfl
   have hS1 : Blk gS #[.bool false] 4 wt := by rw [HWT.out]; exact blk_setCells_other (by omega) _ _ _ h5
   have hB1 : Blk w.heap.size #[.func (.func 139) #[.pointer (some ⟨q, 0, none⟩)] #[]] 88 wt := by rw [HWT.out]; exact blk_setCells_other (by omega) _ _ _ h2
   have hR1 : Blk gR #[.string ⟨#[]⟩, .int .i64 0, .int .i64 0, .int .i64 0, .int .i64 0, .bool false, .string ⟨#[]⟩] 87 wt := by rw [HWT.out]; exact blk_setCells_other (by omega) _ _ _ h3
   have hg1 : W'.grownBy wt (some gT) := by rw [HWT.out]; exact grown_setCells _ _ _ _
   have hk1 : KpT (fun k => k = gT ∨ k = gS) w4.heap.size W' wt := by rw [HWT.out]; exact (KpT.refl _ _ _).setCells h4 (by unfold tyP; decide) (.inr (.inl rfl)) _ _
   have hf1 : KeepsFrom w4.heap.size W' wt := KeepsFrom.of_cells hg1 (fun r e => by cases e; exact ⟨_, _, h4⟩)
   have hb1 : Below w.heap.size w wt := h6.grown hg1 h6.size (fun k e => by cases e; omega)
   have hG1 : SgK x p q Wb v wt := h1.grown hg1 (fun r e => by cases e; exact ⟨by omega, by omega⟩)
   have HH := Hid.intro (And.intro hT1 (And.intro hS1 (And.intro hB1 (And.intro hR1 (And.intro hg1 (And.intro hk1 (And.intro hf1 (And.intro hb1 hG1))))))))
   have fz : wt.frozen? ⟨gS, 0, none⟩ = false := hS1.frozen 0
   have cz : wt.cell? ⟨gS, 0, none⟩ = some (.bool false) := hS1.cell rfl
   clear hT1 hS1 hB1 hR1 hg1 hk1 hf1 hb1 hG1
   gi_wp2_with (refine wpListIn_store_to rfl 87 _ _ rfl gT 0 #[.string c.1.service, .int .i64 c.1.number, .int .i64 c.1.version, .int .i64 c.1.image, .int .i64 c.1.state, .bool c.1.ending, .string c.1.berth] rfl rfl HTT.out isz_Scp (by simp [Value.oneCell']) wt HWT.out ?_)
   obtain ⟨hT1, hS1, hB1, hR1, hg1, hk1, hf1, hb1, hG1⟩ := HH.out
   refine ⟨(KeepsFrom.refl _ W').trans (hf1.trans ((KeepsOthers.setCell _ _ _).from _)), (KpT.refl _ _ W').trans (hk1.set hS1 (by unfold tyP; decide) (.inr (.inr rfl)) 0 _), ?_, hB1.other (a := ⟨gS, 0, none⟩) (by show _ ≠ gS; omega) _, hR1.other (a := ⟨gS, 0, none⟩) (by show _ ≠ gS; omega) _, ?_, ?_, hb1.setCell (p := ⟨gS, 0, none⟩) (by show w.heap.size ≤ gS; omega) _, ?_⟩
   ·exact hG1.grown (grownBy_setCell' _ _ _) (fun r e => by cases e; exact ⟨by omega, by omega⟩)
   ·rw [HEB.out]; exact hT1.other (a := ⟨gS, 0, none⟩) (by show _ ≠ gS; omega) _
   ·rw [HNE.out]; exact hS1.set 0 (.bool true)
   ·have h9 := hg1.size; simp [World.setCell]; omega
  ·have hpn : (!pre.isEmpty) = true := by cases pre; exact absurd rfl hpe; rfl
   rw [hpn] at yS
   have hpm : pre.map (·.1) ≠ [] := fun e => hpe (List.map_eq_nil_iff.1 e)
   have HSNC : Hid (bestC x v.image ((pre ++ [c]).map (·.1)) = if soonB x c.1 (bestC x v.image (pre.map (·.1))) v.image = true then c.1 else bestC x v.image (pre.map (·.1))) := by
    show _ = _
    rw [List.map_append]
    exact bestC_snoc x v.image _ hpm c.1
   have hbm : bestC x v.image (pre.map (·.1)) ∈ x.copies := map_mem (bestC_mem x v.image _ hpm)
   generalize bestC x v.image (pre.map (·.1)) = b at *
   have h4 : Blk gT #[.string b.service, .int .i64 b.number, .int .i64 b.version, .int .i64 b.image, .int .i64 b.state, .bool b.ending, .string b.berth] 87 W' := h4
   have z0 : W'.cell? ⟨gT, 0, none⟩ = some (.string b.service) := h4.cell rfl
   have z1 : W'.cell? ⟨gT, 1, none⟩ = some (.int .i64 b.number) := h4.cell rfl
   have z2 : W'.cell? ⟨gT, 2, none⟩ = some (.int .i64 b.version) := h4.cell rfl
   have z3 : W'.cell? ⟨gT, 3, none⟩ = some (.int .i64 b.image) := h4.cell rfl
   have z4 : W'.cell? ⟨gT, 4, none⟩ = some (.int .i64 b.state) := h4.cell rfl
   have z5 : W'.cell? ⟨gT, 5, none⟩ = some (.bool b.ending) := h4.cell rfl
   have z6 : W'.cell? ⟨gT, 6, none⟩ = some (.string b.berth) := h4.cell rfl
   have HBM := Hid.intro hbm
   clear hpe hpm hbm
   gi_wp2_with fail
   refine ⟨trivial, (CallsIn.inRound l' (callsIn_wide.2 (ahead_any x a1 c1 b2 o2 c2 a3 c3 p m n lo q Wb v c.1 b _ HF.out HV.out h1 c.2 HBM.out))).mono ?_⟩
   rintro e w8 ⟨rfl, hb8⟩
   have k8 : KpT (fun k => k = gT ∨ k = gS) w4.heap.size W' w8 := KpT.of_below hb8 h7
   have f8 : KeepsFrom w4.heap.size W' w8 := KeepsFrom.of_below hb8
   have h18 := h1.below hb8
   have h28 := h2.below hb8 h2.lt
   have h38 := h3.below hb8 h3.lt
   have h48 := h4.below hb8 h4.lt
   have h58 := h5.below hb8 h5.lt
   have h68 := h6.trans (hb8.mono h6.size)
   have h78 := Nat.le_trans h7 hb8.size
   have hbx8 := hbx.below hb8 hbx.lt
   clear h1 h2 h3 h4 h5 h6 hbx y0 y1 y2 y3 y4 y5 y6 yS yB z0 z1 z2 z3 z4 z5 z6
   cases hsn : soonB x c.1 b v.image with
   | false =>
    rw [hsn, if_neg Bool.false_ne_true] at HSNC
    have HH := Hid.intro (And.intro h18 (And.intro h28 (And.intro h38 (And.intro h48 (And.intro h58 h68)))))
    clear h18 h28 h38 h48 h58 h68 hbx8
    gi_wp2_with fail
    obtain ⟨q1, q2, q3, q4, q5, q6⟩ := HH.out
    refine ⟨f8, k8, q1, q2, q3, ?_, ?_, q6, h78⟩
    ·rw [HSNC.out]; exact q4
    ·rw [HNE.out, ← hpn]; exact q5
   | true =>
    rw [hsn, if_pos rfl] at HSNC
    have y0 : w8.cell? ⟨Bx, 0, none⟩ = some (.string c.1.service) := hbx8.cell rfl
    have y1 : w8.cell? ⟨Bx, 1, none⟩ = some (.int .i64 c.1.number) := hbx8.cell rfl
    have y2 : w8.cell? ⟨Bx, 2, none⟩ = some (.int .i64 c.1.version) := hbx8.cell rfl
    have y3 : w8.cell? ⟨Bx, 3, none⟩ = some (.int .i64 c.1.image) := hbx8.cell rfl
    have y4 : w8.cell? ⟨Bx, 4, none⟩ = some (.int .i64 c.1.state) := hbx8.cell rfl
    have y5 : w8.cell? ⟨Bx, 5, none⟩ = some (.bool c.1.ending) := hbx8.cell rfl
    have y6 : w8.cell? ⟨Bx, 6, none⟩ = some (.string c.1.berth) := hbx8.cell rfl
    obtain ⟨wt, HWT⟩ : ∃ wt, Hid (wt = w8.setCells gT 0 [.string c.1.service, .int .i64 c.1.number, .int .i64 c.1.version, .int .i64 c.1.image, .int .i64 c.1.state, .bool c.1.ending, .string c.1.berth]) := ⟨_, rfl⟩
    have HTT := Hid.intro h48.there
    have hT1 : Blk gT #[.string c.1.service, .int .i64 c.1.number, .int .i64 c.1.version, .int .i64 c.1.image, .int .i64 c.1.state, .bool c.1.ending, .string c.1.berth] 87 wt := by rw [HWT.out]; exact h48.setAll #[.string c.1.service, .int .i64 c.1.number, .int .i64 c.1.version, .int .i64 c.1.image, .int .i64 c.1.state, .bool c.1.ending, .string c.1.berth] rfl
    have hS1 : Blk gS #[.bool (!pre.isEmpty)] 4 wt := by rw [HWT.out]; exact blk_setCells_other (by omega) _ _ _ h58
    have hB1 : Blk w.heap.size #[.func (.func 139) #[.pointer (some ⟨q, 0, none⟩)] #[]] 88 wt := by rw [HWT.out]; exact blk_setCells_other (by omega) _ _ _ h28
    have hR1 : Blk gR #[.string ⟨#[]⟩, .int .i64 0, .int .i64 0, .int .i64 0, .int .i64 0, .bool false, .string ⟨#[]⟩] 87 wt := by rw [HWT.out]; exact blk_setCells_other (by omega) _ _ _ h38
    have hg1 : w8.grownBy wt (some gT) := by rw [HWT.out]; exact grown_setCells _ _ _ _
    have hk1 : KpT (fun k => k = gT ∨ k = gS) w4.heap.size w8 wt := by rw [HWT.out]; exact (KpT.refl _ _ _).setCells h48 (by unfold tyP; decide) (.inr (.inl rfl)) _ _
    have hf1 : KeepsFrom w4.heap.size w8 wt := KeepsFrom.of_cells hg1 (fun r e => by cases e; exact ⟨_, _, h48⟩)
    have hb1 : Below w.heap.size w wt := h68.grown hg1 h68.size (fun k e => by cases e; omega)
    have hG1 : SgK x p q Wb v wt := h18.grown hg1 (fun r e => by cases e; exact ⟨by omega, by omega⟩)
    have HH := Hid.intro (And.intro hT1 (And.intro hS1 (And.intro hB1 (And.intro hR1 (And.intro hg1 (And.intro hk1 (And.intro hf1 (And.intro hb1 hG1))))))))
    have fz : wt.frozen? ⟨gS, 0, none⟩ = false := hS1.frozen 0
    have cz : wt.cell? ⟨gS, 0, none⟩ = some (.bool (!pre.isEmpty)) := hS1.cell rfl
    clear hT1 hS1 hB1 hR1 hg1 hk1 hf1 hb1 hG1
    gi_wp2_with (refine wpListIn_store_to rfl 87 _ _ rfl gT 0 #[.string c.1.service, .int .i64 c.1.number, .int .i64 c.1.version, .int .i64 c.1.image, .int .i64 c.1.state, .bool c.1.ending, .string c.1.berth] rfl rfl HTT.out isz_Scp (by simp [Value.oneCell']) wt HWT.out ?_)
    obtain ⟨hT1, hS1, hB1, hR1, hg1, hk1, hf1, hb1, hG1⟩ := HH.out
    refine ⟨f8.trans (hf1.trans ((KeepsOthers.setCell _ _ _).from _)), k8.trans (hk1.set hS1 (by unfold tyP; decide) (.inr (.inr rfl)) 0 _), ?_, hB1.other (a := ⟨gS, 0, none⟩) (by show _ ≠ gS; omega) _, hR1.other (a := ⟨gS, 0, none⟩) (by show _ ≠ gS; omega) _, ?_, ?_, hb1.setCell (p := ⟨gS, 0, none⟩) (by show w.heap.size ≤ gS; omega) _, ?_⟩
    ·exact hG1.grown (grownBy_setCell' _ _ _) (fun r e => by cases e; exact ⟨by omega, by omega⟩)
    ·rw [HSNC.out]; exact hT1.other (a := ⟨gS, 0, none⟩) (by show _ ≠ gS; omega) _
    ·rw [HNE.out]; exact hS1.set 0 (.bool true)
    ·have h9 := hg1.size; simp [World.setCell]; omega
 ·rintro D xs W' hD hcame ⟨h1, h2, h3, h4, h5, h6, h7⟩ hK
  have HE1 : Hid (bestC x v.image (lvF x v.name qf) = bestC x v.image (xs.map (·.1))) := by show _ = _; rw [hcame]
  have HE2 : Hid ((!(lvF x v.name qf).isEmpty) = (!xs.isEmpty)) := by show _ = _; rw [← hcame]; cases xs <;> rfl
  generalize hbb : bestC x v.image (xs.map (·.1)) = b at *
  generalize hee : (!xs.isEmpty) = E at *
  have h4 : Blk gT #[.string b.service, .int .i64 b.number, .int .i64 b.version, .int .i64 b.image, .int .i64 b.state, .bool b.ending, .string b.berth] 87 W' := h4
  have HH := Hid.intro (And.intro h3 (And.intro h4 (And.intro h5 h6)))
  have HD := Hid.intro hK
  clear hbb hee h1 h2 h3 h4 h5 h6 hK hcame
  go_upto_region 7 with fail
  refine wp_normal' ?_
  refine wp_region_held_drew (S := fun wy => Blk gT #[.string b.service, .int .i64 b.number, .int .i64 b.version, .int .i64 b.image, .int .i64 b.state, .bool b.ending, .string b.berth] 87 wy ∧ Blk gS #[.bool E] 4 wy) (by kernel_rfl) ⟨HH.out.2.1.drew, HH.out.2.2.1.drew⟩ (fun hS => ?_)
  have HB8 : Hid (Below w.heap.size w W'.drew) := HH.out.2.2.2.drew
  have HR8 : Hid (Blk gR #[.string ⟨#[]⟩, .int .i64 0, .int .i64 0, .int .i64 0, .int .i64 0, .bool false, .string ⟨#[]⟩] 87 W'.drew) := HH.out.1.drew
  have HD8 : Hid (W'.drew.heap[D]? = some (.deferred (some []))) := HD.out
  clear HH HD
  generalize W'.drew = wd at *
  refine tm 0 20 gT 0 [.string b.service, .int .i64 b.number, .int .i64 b.version, .int .i64 b.image, .int .i64 b.state, .bool b.ending, .string b.berth] rfl (fun _ h => h.1.rangeA) Tryz.underlying87 isz_Scp hS ?_
  simp only [pA,pB,pC,pD]
  refine tl 1 21 (.bool E) ⟨gS, 0, none⟩ rfl (fun wy hy => hy.2.cell rfl) hS ?_
  simp only [pA,pB,pC,pD]
  refine rd1 2 ⟨none, _, _, _, _, none⟩ rfl (fun K hK => ?_)
  rw [if_pos (by rfl)]
  refine wp_store_mid 87 (.tmp 4) (.tmp 20) (by rfl) gR 0 #[.string b.service, .int .i64 b.number, .int .i64 b.version, .int .i64 b.image, .int .i64 b.state, .bool b.ending, .string b.berth] (by rfl) (by rfl) HR8.out.there isz_Scp (by simp [Value.oneCell']) ?_
  have HR9 : Hid ((wd.setCells gR 0 [.string b.service, .int .i64 b.number, .int .i64 b.version, .int .i64 b.image, .int .i64 b.state, .bool b.ending, .string b.berth]).rangeAt gR 0 [.string b.service, .int .i64 b.number, .int .i64 b.version, .int .i64 b.image, .int .i64 b.state, .bool b.ending, .string b.berth]) := World.rangeAt_setCells_same _ _ _ _ HR8.out.there
  have HB9 : Hid (Below w.heap.size w (wd.setCells gR 0 [.string b.service, .int .i64 b.number, .int .i64 b.version, .int .i64 b.image, .int .i64 b.state, .bool b.ending, .string b.berth])) := below_setCells (by omega) _ _ _ HB8.out
  have hgd : gR ≠ D := fun e => by have h9 := HR8.out; rw [e] at h9; have h8 := HD8.out; rw [show wd.heap[D]? = _ from h9] at h8; cases h8
  have HD9 : Hid ((wd.setCells gR 0 [.string b.service, .int .i64 b.number, .int .i64 b.version, .int .i64 b.image, .int .i64 b.state, .bool b.ending, .string b.berth]).heap[D]? = some (.deferred (some []))) := (heap_setCells_other (Ne.symm hgd) _ _ _).trans HD8.out
  refine hK.out _ _ ⟨blk_setCells_other (by omega) _ _ _ hS.1, blk_setCells_other (by omega) _ _ _ hS.2⟩ (fun hS => ?_)
  clear hK K HR8 HB8 HD8
  generalize wd.setCells gR 0 [.string b.service, .int .i64 b.number, .int .i64 b.version, .int .i64 b.image, .int .i64 b.state, .bool b.ending, .string b.berth] = w9 at *
  simp only [Act.put]
  refine tz 3 5 (.bool E) rfl hS ?_
  simp only [Act.put, List.setIfInBounds_toArray, List.set_cons_zero, List.set_cons_succ]
  refine wpAnyH_done (by kernel_rfl) ?_ _
  refine ⟨rfl, ?_⟩
  clear hS
  go_wp2_with fail
  refine ⟨by simp, .inl ⟨_, _, rfl, run_takeDeferred HD9.out, ?_⟩⟩
  refine ⟨_, results_cell_tmp rfl _ _ gR [.string b.service, .int .i64 b.number, .int .i64 b.version, .int .i64 b.image, .int .i64 b.state, .bool b.ending, .string b.berth] _ rfl ?_ Tryz.underlying87 rfl isz_Scp, ?_⟩
  ·intro j u hj
   rw [World.cell?_of_block (w := w9) (a := ⟨gR, 0 + j, none⟩) (World.putObj_heap_other (by show gR ≠ D; exact hgd))]
   exact HR9.out j u hj
  ·rw [HE1.out, HE2.out]
   exact ⟨rfl, HB9.out.trans ((Below.refl w.heap.size w9).grown (grownBy_putObj' w9 D _) HB9.out.size (fun k e => by cases e; omega))⟩

end Go.Proofs.YtnggdpjfmpjlhaaGreat
