import Derived.Test.YtnggdpjfmpjlhaaGreatTkw
import Derived.Test.YtnggdpjfmpjlhaaGreatLv3
import Derived.Test.YtnggdpjfmpjlhaaGreatSk3
namespace Go.Proofs.YtnggdpjfmpjlhaaGreat
open Go.RowKit

abbrev Rsn3 := Nat × Array Value × (Scp → Bool)
def fsL (x : Sbk) (q : Nat) (im : Int) : List Rsn3 := [(145, #[], fun c => c.state != 3), (121, #[.pointer (some ⟨q, 0, none⟩)], fun c => c.image != im), (61, #[.pointer (some ⟨q, 0, none⟩)], fun c => dnB x c.berth)]

theorem bne_false {a b : Bool} (h : a = b) : (!(a == b)) = false := by subst h; cases a <;> rfl
theorem bne_true {a b : Bool} (h : a ≠ b) : (!(a == b)) = true := by cases a <;> cases b <;> first | rfl | exact absurd rfl h

theorem soon_diff {x : Sbk} {q : Nat} {im : Int} {c d : Scp} {k : Nat} {r : Rsn3} (h : (fsL x q im)[k]? = some r) (ha : ∀ (j : Nat) r, j < k → (fsL x q im)[j]? = some r → r.2.2 c = r.2.2 d) (hne : r.2.2 c ≠ r.2.2 d) : soonB x c d im = r.2.2 c := by
 have a0 : ∀ h : 0 < k, (c.state != 3) = (d.state != 3) := fun h => ha 0 _ h rfl
 have a1 : ∀ h : 1 < k, (c.image != im) = (d.image != im) := fun h => ha 1 _ h rfl
 unfold soonB
 match k, h with
 | 0, h =>
  cases h
  rw [if_pos (bne_true hne)]
 | 1, h =>
  cases h
  rw [if_neg (by rw [bne_false (a0 (by omega))]; exact Bool.false_ne_true), if_pos (bne_true hne)]
 | 2, h =>
  cases h
  rw [if_neg (by rw [bne_false (a0 (by omega))]; exact Bool.false_ne_true), if_neg (by rw [bne_false (a1 (by omega))]; exact Bool.false_ne_true)]
  have hne' : drB x c ≠ drB x d := hne
  rw [if_pos (bne_true hne')]
  rfl

theorem soon_same {x : Sbk} {q : Nat} {im : Int} {c d : Scp} (ha : ∀ (j : Nat) r, j < 3 → (fsL x q im)[j]? = some r → r.2.2 c = r.2.2 d) : soonB x c d im = decide (d.number < c.number) := by
 have a0 : (c.state != 3) = (d.state != 3) := ha 0 _ (by omega) rfl
 have a1 : (c.image != im) = (d.image != im) := ha 1 _ (by omega) rfl
 have a2 : drB x c = drB x d := ha 2 _ (by omega) rfl
 unfold soonB
 rw [if_neg (by rw [bne_false a0]; exact Bool.false_ne_true), if_neg (by rw [bne_false a1]; exact Bool.false_ne_true), if_neg (by rw [bne_false a2]; exact Bool.false_ne_true)]

theorem notReady_is (x : Sbk) (p q : Nat) (Wb : World) (v : Ssv) : IsF x p q Wb v 145 #[] (fun c => c.state != 3) := fun c _ W _ => notReady_any c W
theorem failed_is (x : Sbk) (p q : Nat) (Wb : World) (v : Ssv) : IsF x p q Wb v 123 #[] (fun c => c.state == 4) := fun c _ W _ => failed_any c W
theorem anyCopy_is (x : Sbk) (p q : Nat) (Wb : World) (v : Ssv) : IsF x p q Wb v 119 #[] (fun _ => true) := fun c _ W _ => anyCopy_any c W
theorem isOld_is (x : Sbk) (p q : Nat) (Wb : World) (v : Ssv) : IsF x p q Wb v 121 #[.pointer (some ⟨q, 0, none⟩)] (fun c => c.image != v.image) := fun c _ W h => isOld_any x p q Wb v c W h
theorem isLeaving_is (x : Sbk) (a1 : Option Addr) (c1 : Nat) (b2 o2 c2 : Nat) (a3 : Option Addr) (c3 : Nat) (p m n lo q : Nat) (Wb : World) (v : Ssv) (hF : FndS x a1 c1 (some ⟨b2, o2, none⟩) c2 a3 c3 p m n lo Wb) (hv : SVal x) : IsF x p q Wb v 61 #[.pointer (some ⟨q, 0, none⟩)] (fun c => dnB x c.berth) := fun c hc W h => by
 obtain ⟨j, hj⟩ := List.getElem?_of_mem hc
 obtain ⟨_, _, _, _, _, hcc⟩ := hF.n2.at hj
 exact isLeaving_any x a1 c1 b2 o2 c2 a3 c3 p m n lo q Wb v c W hF h hcc.2.2.2.2.2.2.2.2 (asc_uniqB hv.b2)

theorem fs_is (x : Sbk) (a1 : Option Addr) (c1 : Nat) (b2 o2 c2 : Nat) (a3 : Option Addr) (c3 : Nat) (p m n lo q : Nat) (Wb : World) (v : Ssv) (hF : FndS x a1 c1 (some ⟨b2, o2, none⟩) c2 a3 c3 p m n lo Wb) (hv : SVal x) (k : Nat) (r : Rsn3) (h : (fsL x q v.image)[k]? = some r) : IsF x p q Wb v r.1 r.2.1 r.2.2 ∧ ∀ args w, (callFunc r.1 args).run Tryz.prog w = .ok (.enter r.1 args) w := by
 match k, h with
 | 0, h =>
  cases h
  exact ⟨notReady_is x p q Wb v, enters_of Tryz.func145 (by kernel_rfl) rfl⟩
 | 1, h =>
  cases h
  exact ⟨isOld_is x p q Wb v, enters_of Tryz.func121 (by kernel_rfl) rfl⟩
 | 2, h =>
  cases h
  exact ⟨isLeaving_is x a1 c1 b2 o2 c2 a3 c3 p m n lo q Wb v hF hv, enters_of Tryz.func61 (by kernel_rfl) rfl⟩

set_option maxHeartbeats 8000000 in
set_option maxRecDepth 100000 in
theorem ahead_any (x : Sbk) (a1 : Option Addr) (c1 : Nat) (b2 o2 c2 : Nat) (a3 : Option Addr) (c3 : Nat) (p m n lo q : Nat) (Wb : World) (v : Ssv) (c d : Scp) (w : World) (hF : FndS x a1 c1 (some ⟨b2, o2, none⟩) c2 a3 c3 p m n lo Wb) (hv : SVal x) (hK : SgK x p q Wb v w) (hc : c ∈ x.copies) (hd : d ∈ x.copies) :
  Calls Tryz.prog 139 #[.pointer (some ⟨q, 0, none⟩), .agg #[.string c.service, .int .i64 c.number, .int .i64 c.version, .int .i64 c.image, .int .i64 c.state, .bool c.ending, .string c.berth], .agg #[.string d.service, .int .i64 d.number, .int .i64 d.version, .int .i64 d.image, .int .i64 d.state, .bool d.ending, .string d.berth]] w fun e w' => e = .returned (.bool (soonB x c d v.image)) ∧ Below w.heap.size w w' := by
 have HFS := Hid.intro (fs_is x a1 c1 b2 o2 c2 a3 c3 p m n lo q Wb v hF hv)
 have hb3 : Below w.heap.size w (((w.alloc (Obj.cells #[.string c.service, .int .i64 c.number, .int .i64 c.version, .int .i64 c.image, .int .i64 c.state, .bool c.ending, .string c.berth] 87)).alloc (Obj.cells #[.string d.service, .int .i64 d.number, .int .i64 d.version, .int .i64 d.image, .int .i64 d.state, .bool d.ending, .string d.berth] 87)).alloc (Obj.cells #[.func (.func 145) #[] #[], .func (.func 121) #[.pointer (some ⟨q, 0, none⟩)] #[], .func (.func 61) #[.pointer (some ⟨q, 0, none⟩)] #[]] 115)) := by go_grown
 have HC0 : Blk w.heap.size #[.string c.service, .int .i64 c.number, .int .i64 c.version, .int .i64 c.image, .int .i64 c.state, .bool c.ending, .string c.berth] 87 (w.alloc (Obj.cells #[.string c.service, .int .i64 c.number, .int .i64 c.version, .int .i64 c.image, .int .i64 c.state, .bool c.ending, .string c.berth] 87)) := Blk.alloc _ _ _
 have HC2 : Blk w.heap.size #[.string c.service, .int .i64 c.number, .int .i64 c.version, .int .i64 c.image, .int .i64 c.state, .bool c.ending, .string c.berth] 87 ((w.alloc (Obj.cells #[.string c.service, .int .i64 c.number, .int .i64 c.version, .int .i64 c.image, .int .i64 c.state, .bool c.ending, .string c.berth] 87)).alloc (Obj.cells #[.string d.service, .int .i64 d.number, .int .i64 d.version, .int .i64 d.image, .int .i64 d.state, .bool d.ending, .string d.berth] 87)) := HC0.below ((Below.refl _ _).alloc (Nat.le_refl _) _) HC0.lt
 have HC3 : Hid (Blk w.heap.size #[.string c.service, .int .i64 c.number, .int .i64 c.version, .int .i64 c.image, .int .i64 c.state, .bool c.ending, .string c.berth] 87 (((w.alloc (Obj.cells #[.string c.service, .int .i64 c.number, .int .i64 c.version, .int .i64 c.image, .int .i64 c.state, .bool c.ending, .string c.berth] 87)).alloc (Obj.cells #[.string d.service, .int .i64 d.number, .int .i64 d.version, .int .i64 d.image, .int .i64 d.state, .bool d.ending, .string d.berth] 87)).alloc (Obj.cells #[.func (.func 145) #[] #[], .func (.func 121) #[.pointer (some ⟨q, 0, none⟩)] #[], .func (.func 61) #[.pointer (some ⟨q, 0, none⟩)] #[]] 115))) := HC2.below ((Below.refl _ _).alloc (Nat.le_refl _) _) HC2.lt
 have HD2 : Blk (w.heap.size + 1) #[.string d.service, .int .i64 d.number, .int .i64 d.version, .int .i64 d.image, .int .i64 d.state, .bool d.ending, .string d.berth] 87 ((w.alloc (Obj.cells #[.string c.service, .int .i64 c.number, .int .i64 c.version, .int .i64 c.image, .int .i64 c.state, .bool c.ending, .string c.berth] 87)).alloc (Obj.cells #[.string d.service, .int .i64 d.number, .int .i64 d.version, .int .i64 d.image, .int .i64 d.state, .bool d.ending, .string d.berth] 87)) := by
  have := Blk.alloc (w.alloc (Obj.cells #[.string c.service, .int .i64 c.number, .int .i64 c.version, .int .i64 c.image, .int .i64 c.state, .bool c.ending, .string c.berth] 87)) #[.string d.service, .int .i64 d.number, .int .i64 d.version, .int .i64 d.image, .int .i64 d.state, .bool d.ending, .string d.berth] 87
  simpa using this
 have HD3 : Hid (Blk (w.heap.size + 1) #[.string d.service, .int .i64 d.number, .int .i64 d.version, .int .i64 d.image, .int .i64 d.state, .bool d.ending, .string d.berth] 87 (((w.alloc (Obj.cells #[.string c.service, .int .i64 c.number, .int .i64 c.version, .int .i64 c.image, .int .i64 c.state, .bool c.ending, .string c.berth] 87)).alloc (Obj.cells #[.string d.service, .int .i64 d.number, .int .i64 d.version, .int .i64 d.image, .int .i64 d.state, .bool d.ending, .string d.berth] 87)).alloc (Obj.cells #[.func (.func 145) #[] #[], .func (.func 121) #[.pointer (some ⟨q, 0, none⟩)] #[], .func (.func 61) #[.pointer (some ⟨q, 0, none⟩)] #[]] 115))) := HD2.below ((Below.refl _ _).alloc (Nat.le_refl _) _) HD2.lt
 have HG3 : Hid (Blk (w.heap.size + 1 + 1) #[.func (.func 145) #[] #[], .func (.func 121) #[.pointer (some ⟨q, 0, none⟩)] #[], .func (.func 61) #[.pointer (some ⟨q, 0, none⟩)] #[]] 115 (((w.alloc (Obj.cells #[.string c.service, .int .i64 c.number, .int .i64 c.version, .int .i64 c.image, .int .i64 c.state, .bool c.ending, .string c.berth] 87)).alloc (Obj.cells #[.string d.service, .int .i64 d.number, .int .i64 d.version, .int .i64 d.image, .int .i64 d.state, .bool d.ending, .string d.berth] 87)).alloc (Obj.cells #[.func (.func 145) #[] #[], .func (.func 121) #[.pointer (some ⟨q, 0, none⟩)] #[], .func (.func 61) #[.pointer (some ⟨q, 0, none⟩)] #[]] 115))) := by
  have := Blk.alloc ((w.alloc (Obj.cells #[.string c.service, .int .i64 c.number, .int .i64 c.version, .int .i64 c.image, .int .i64 c.state, .bool c.ending, .string c.berth] 87)).alloc (Obj.cells #[.string d.service, .int .i64 d.number, .int .i64 d.version, .int .i64 d.image, .int .i64 d.state, .bool d.ending, .string d.berth] 87)) #[.func (.func 145) #[] #[], .func (.func 121) #[.pointer (some ⟨q, 0, none⟩)] #[], .func (.func 61) #[.pointer (some ⟨q, 0, none⟩)] #[]] 115
  show Blk _ _ _ _
  rw [World.size_alloc, World.size_alloc] at this
  exact this
 have HK3 := Hid.intro (hK.below hb3)
 have HC := Hid.intro hc
 have HD := Hid.intro hd
 clear HC0 HC2 HD2 hF hv hK hc hd
 go_enter Tryz.func139, Tryz.ntmps139
 go_wp2_with fail
 generalize ((w.alloc (Obj.cells #[.string c.service, .int .i64 c.number, .int .i64 c.version, .int .i64 c.image, .int .i64 c.state, .bool c.ending, .string c.berth] 87)).alloc (Obj.cells #[.string d.service, .int .i64 d.number, .int .i64 d.version, .int .i64 d.image, .int .i64 d.state, .bool d.ending, .string d.berth] 87)).alloc (Obj.cells #[.func (.func 145) #[] #[], .func (.func 121) #[.pointer (some ⟨q, 0, none⟩)] #[], .func (.func 61) #[.pointer (some ⟨q, 0, none⟩)] #[]] 115) = w3 at *
 generalize w.heap.size + 1 + 1 = gf at *
 generalize w.heap.size + 1 = gb at *
 go_loopw [15] (fun i wr => ∃ k : Nat, k ≤ 3 ∧ i = .int .i64 k ∧ Hid (∀ (j : Nat) r, j < k → (fsL x q v.image)[j]? = some r → r.2.2 c = r.2.2 d) ∧ Hid (SgK x p q Wb v wr) ∧ Hid (Blk w.heap.size #[.string c.service, .int .i64 c.number, .int .i64 c.version, .int .i64 c.image, .int .i64 c.state, .bool c.ending, .string c.berth] 87 wr) ∧ Hid (Blk gb #[.string d.service, .int .i64 d.number, .int .i64 d.version, .int .i64 d.image, .int .i64 d.state, .bool d.ending, .string d.berth] 87 wr) ∧ Hid (Blk gf #[.func (.func 145) #[] #[], .func (.func 121) #[.pointer (some ⟨q, 0, none⟩)] #[], .func (.func 61) #[.pointer (some ⟨q, 0, none⟩)] #[]] 115 wr) ∧ Below w.heap.size w wr) (fun i _ => 3 - (intOf i).toNat)
 case atStart => exact ⟨0, by omega, rfl, fun j r h => by omega, HK3, HC3, HD3, HG3, hb3⟩
 case round =>
  clear HK3 HC3 HD3 HG3 hb3
  obtain ⟨k, hk, rfl, hA, hKr, hCr, hDr, hGr, hB⟩ := hrel
  by_cases hlt : k < 3
  case neg =>
   have hke : k = 3 := by omega
   subst hke
   have HE := Hid.intro (soon_same hA.out)
   have k1 : wr.cell? ⟨w.heap.size, 1, none⟩ = some (.int .i64 c.number) := hCr.out.cell rfl
   have k2 : wr.cell? ⟨gb, 1, none⟩ = some (.int .i64 d.number) := hDr.out.cell rfl
   go_wp2_with fail
   go_ret
   exact ⟨ret_bool HE.out.symm, hB⟩
  obtain ⟨r, hr⟩ : ∃ r, (fsL x q v.image)[k]? = some r := ⟨_, List.getElem?_eq_getElem (by show k < 3; exact hlt)⟩
  have c0 : wr.cell? ⟨gf, k, none⟩ = some (.func (.func r.1) r.2.1 #[]) := by
   match k, hr with
   | 0, hr => cases hr; exact hGr.out.cell rfl
   | 1, hr => cases hr; exact hGr.out.cell rfl
   | 2, hr => cases hr; exact hGr.out.cell rfl
  have HS1 := Hid.intro (HFS.out k r hr).1
  have heg := (HFS.out k r hr).2
  have HRR := Hid.intro hr
  obtain ⟨fid, bnd, qf⟩ := r
  simp only at c0 HS1 heg
  clear hr
  go_upto_region 4 with fail
  clear c0
  refine wp_region_held_drew (S := fun wy => SgK x p q Wb v wy ∧ Blk w.heap.size #[.string c.service, .int .i64 c.number, .int .i64 c.version, .int .i64 c.image, .int .i64 c.state, .bool c.ending, .string c.berth] 87 wy ∧ Blk gb #[.string d.service, .int .i64 d.number, .int .i64 d.version, .int .i64 d.image, .int .i64 d.state, .bool d.ending, .string d.berth] 87 wy ∧ Blk gf #[.func (.func 145) #[] #[], .func (.func 121) #[.pointer (some ⟨q, 0, none⟩)] #[], .func (.func 61) #[.pointer (some ⟨q, 0, none⟩)] #[]] 115 wy) (by kernel_rfl) ⟨hKr.out.below (Below.refl _ _).drew, hCr.out.drew, hDr.out.drew, hGr.out.drew⟩ (fun hS => ?_)
  have hB2 := hB.drew
  clear hKr hCr hDr hGr hB
  generalize wr.drew = w4 at *
  refine tz 0 19 (.func (.func fid) bnd #[]) rfl hS ?_
  simp only [pA,pB,pC,pD]
  refine tm 1 20 w.heap.size 0 [.string c.service, .int .i64 c.number, .int .i64 c.version, .int .i64 c.image, .int .i64 c.state, .bool c.ending, .string c.berth] rfl (fun _ h => h.2.1.rangeA) Tryz.underlying87 isz_Scp hS ?_
  simp only [pA,pB,pC,pD]
  refine tz 3 22 (.func (.func fid) bnd #[]) rfl hS ?_
  simp only [pA,pB,pC,pD]
  refine tm 4 23 gb 0 [.string d.service, .int .i64 d.number, .int .i64 d.version, .int .i64 d.image, .int .i64 d.state, .bool d.ending, .string d.berth] rfl (fun _ h => h.2.2.1.rangeA) Tryz.underlying87 isz_Scp hS ?_
  simp only [pA,pB,pC,pD]
  refine rd1 2 ⟨some 21, _, _, _, _, none⟩ rfl (fun K hK => ?_)
  ·go_simp
   refine (HS1.out c HC.out _ hS.1).mono ?_
   rintro e w5 ⟨rfl, hb5⟩
   have hB5 := hB2.trans (hb5.mono hB2.size)
   refine hK.out _ _ ⟨hS.1.below hb5, hS.2.1.below hb5 hS.2.1.lt, hS.2.2.1.below hb5 hS.2.2.1.lt, hS.2.2.2.below hb5 hS.2.2.2.lt⟩ (fun hS => ?_)
   clear hK K hb5 hB2
   refine rd1 5 ⟨some 24, _, _, _, _, none⟩ rfl (fun K hK => ?_)
   go_simp
   refine (HS1.out d HD.out _ hS.1).mono ?_
   rintro e w6 ⟨rfl, hb6⟩
   have hB6 := hB5.trans (hb6.mono hB5.size)
   refine hK.out _ _ ⟨hS.1.below hb6, hS.2.1.below hb6 hS.2.1.lt, hS.2.2.1.below hb6 hS.2.2.1.lt, hS.2.2.2.below hb6 hS.2.2.2.lt⟩ (fun hS => ?_)
   clear hK K hb6 hB5
   refine ty 6 ⟨some 25, _, _, _, _, none⟩ (.bool (qf c != qf d)) rfl (by rfl) ?_ hS ?_
   ·intro wy hy
    clear hy
    (first | (go_simp; done) | (go_simp; cases qf c <;> cases qf d <;> rfl))
   simp only [pA,pB,pC,pD]
   have HSS := Hid.intro hS
   refine wpAnyH_done (by kernel_rfl) ?_ _
   clear hS
   by_cases hne : qf c = qf d
   ·have hn2 : (qf c != qf d) = false := by simp [hne]
    have HA2 : Hid (∀ (j : Nat) r, j < k + 1 → (fsL x q v.image)[j]? = some r → r.2.2 c = r.2.2 d) := fun j r hj hr => by
     by_cases e : j = k
     ·subst e
      have := HRR.out.symm.trans hr
      cases this
      exact hne
     ·exact hA.out j r (by omega) hr
    rw [hn2]
    clear hne hn2
    go_wp2_with fail
    go_roundw
    case rel => exact ⟨k + 1, by omega, by go_num, HA2, HSS.out.1, HSS.out.2.1, HSS.out.2.2.1, HSS.out.2.2.2, hB6⟩
    case measure => simp [intOf]; omega
   ·have hn2 : (qf c != qf d) = true := by simp [hne]
    have HE := Hid.intro (soon_diff HRR.out hA.out hne)
    rw [hn2]
    clear hne hn2
    have HRC := Hid.intro HSS.out.2.1.rangeA
    go_wp2_with (first | (refine wpList_load_mid rfl 87 _ rfl w.heap.size 0 (by first | rfl | (simp [go_sem]; done)) [.string c.service, .int .i64 c.number, .int .i64 c.version, .int .i64 c.image, .int .i64 c.state, .bool c.ending, .string c.berth] _ HRC.out Tryz.underlying87 rfl isz_Scp ?_))
    refine (HS1.out c HC.out _ HSS.out.1).mono ?_
    rintro e w7 ⟨rfl, hb7⟩
    have hB7 := hB6.trans (hb7.mono hB6.size)
    clear hb7 hB6
    go_wp2_with fail
    go_ret
    exact ⟨ret_bool HE.out.symm, hB7⟩

end Go.Proofs.YtnggdpjfmpjlhaaGreat
