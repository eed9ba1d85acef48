/-
  A new world. Made by mknws.py.
-/
import Derived.Test.YtebcocejgenadaaGreatJ20
import Derived.Test.YtebcocejgenadaaGreatRwNm
namespace Go.Proofs.YtebcocejgenadaaGreat
open Go.RowKit

def mk0 (n : Nm) : Mte := ⟨n.name, true, 0, false, 0, [], [], [], []⟩
/-- a world of new mates -/
def nwW (xs : List Nm) : Wrl := ⟨⟨0, [], []⟩, xs.map mk0, []⟩
def nmL (ns : List ByteArray) : List Nm := ns.map Nm.mk
/-- the names that a new world is made of: all or none -/
def okN (ns : List ByteArray) : List ByteArray := if woB (nwW (nmL ns)) = true then ns else []

theorem okN_yes {ns : List ByteArray} (h : woB (nwW (nmL ns)) = true) : okN ns = ns := by unfold okN; rw [if_pos h]
theorem okN_no {ns : List ByteArray} (h : woB (nwW (nmL ns)) = false) : okN ns = [] := by unfold okN; rw [if_neg (by rw [h]; decide)]

theorem ok_four {xs : List Nm} (h : woB (nwW xs) = true) : 1 ≤ xs.length ∧ xs.length ≤ 4 := by
  unfold woB fwB inR nwW at h
  simp only [Bool.and_eq_true, decide_eq_true_eq, List.length_map] at h
  obtain ⟨⟨⟨h1, h2⟩, _⟩, _⟩ := h
  omega

theorem no_many {xs : List Nm} (h : ¬ xs.length ≤ 4) : woB (nwW xs) = false := by
  cases e : woB (nwW xs) with
  | false => rfl
  | true => exact absurd (ok_four e).2 h

theorem mte_of_nm {lo : Nat} {w : World} {f : Nat → Option Value} {x : Nm} (h : NmC lo w f x) : MteC lo w f (mk0 x) := by
  obtain ⟨q0, q1, q2, q3, q4, q5, q6, q7, q8, z0, _⟩ := h
  exact ⟨none, 0, none, 0, none, 0, none, 0, q0, q1, q2, q3, q4, q5, q6, q7, q8, z0, SliceC.nil, SliceC.nil, SliceC.nil, SliceC.nil⟩

theorem slice_mk0 {lo : Nat} {w : World} {a : Option Addr} {xs : List Nm} (h : SliceC NmC 9 lo w a xs) : SliceC MteC 9 lo w a (xs.map mk0) := by
  refine ⟨by rw [List.length_map]; exact h.1, ?_⟩
  rcases h.2 with h | ⟨b, o, e, h1, h2, h3⟩
  · exact .inl (by rw [h]; rfl)
  · refine .inr ⟨b, o, e, h1, h2, fun j x hj => ?_⟩
    rw [List.getElem?_map] at hj
    cases hx : xs[j]? with
    | none => rw [hx] at hj; cases hj
    | some y =>
      rw [hx] at hj
      cases hj
      exact mte_of_nm (h3 j y hx)

theorem nw_sl {lo : Nat} {w : World} {a : Option Addr} {xs : List Nm} (h : SliceC NmC 9 lo w a xs) (hl : xs.length ≤ 1048576) (hz : SzNm xs 1048576) : WSl (nwW xs) lo none none a none w := by
  refine ⟨⟨SliceC.nil, SliceC.nil, Nat.zero_le _, Nat.zero_le _, Nat.zero_le _⟩, slice_mk0 h, SliceC.nil, by show (xs.map mk0).length ≤ _; rw [List.length_map]; exact hl, Nat.zero_le _, fun k y hy => ?_⟩
  have hy2 : (xs.map mk0)[k]? = some y := hy
  rw [List.getElem?_map] at hy2
  cases hx : xs[k]? with
  | none => rw [hx] at hy2; cases hy2
  | some z =>
    rw [hx] at hy2
    cases hy2
    have := (hz z (List.mem_of_getElem? hx)).1
    simp only [mk0, wMte, wS, List.map_nil, List.sum_nil, List.length_nil]
    omega

theorem rvNm_app : ∀ (xs ys : List Nm), rvNm (xs ++ ys) = rvNm xs ++ rvNm ys
  | [], _ => rfl
  | x :: r, ys => by simp only [List.cons_append, rvNm, rvNm_app r ys, List.append_assoc]

theorem nm_step {ns : List ByteArray} {k : Nat} {n : ByteArray} (h : ns[k]? = some n) : (nmL ns).take (k + 1) = (nmL ns).take k ++ [⟨n⟩] := by
  unfold nmL
  rw [List.take_add_one, List.getElem?_map, h]
  rfl

theorem nmL_len (ns : List ByteArray) : (nmL ns).length = ns.length := List.length_map _

theorem sz_names {lo : Nat} {w : World} {a : Option Addr} {ns : List ByteArray} (h : wS ByteArray.size ns ≤ 1048576) (_h2 : SliceC StrC 1 lo w a ns) : SzNm (nmL ns) 1048576 := by
  intro x hx
  obtain ⟨n, hn, rfl⟩ := List.mem_map.1 hx
  have := wS_mem (f := ByteArray.size) hn
  exact ⟨Nat.le_trans this h, Nat.le_trans this h⟩

theorem own_blkN {base n : Nat} {w : World} {e : TypeId} {s : Nat} {cs : List Value} {v : Value} (h : w.ownsRow base e s v n cs) : ∀ j, v.ownBlock = some j → base ≤ j := by
  intro j hj
  rcases h.2 with ⟨h1, _⟩ | ⟨g', cap', cur, h1, h2, _⟩
  · rw [h1] at hj
    cases hj
  · rw [h1] at hj
    cases hj
    exact h2

theorem wp_append_ownN {P : Program} {op : Oper} {a : Act} {w : World} {K : Act → World → Prop} {Q : Exit → Act → World → Prop} (s x : Operand) (t : TypeId)
    (ho : op.op = .call { callee := .builtin .append, args := #[s, x], argTypes := #[t, t] })
    (base : Nat) (e : TypeId) (i : TypeInfo) (z : Value) (size bytes : Nat) (ht : P.underlying t = some (.slice e)) (hi : P.info? e = some i) (hz : i.zero = some z)
    (hsize : i.size = size) (hby : i.bytes = bytes) (hzs : z.cells.size = size) (hsz : 0 < size)
    (v : Value) (n : Nat) (xs : List Value) (hs : a.eval s = v) (hown : w.ownsRow base e size v n xs)
    (ad : Addr) (m c : Nat) (news : List Value) (hx : a.eval x = .slice (some ad) m c) (hl : news.length = m * size) (hnews : ∀ j u, news[j]? = some u → w.cell? (ad.add j) = some u) (h1 : ∀ u ∈ news, u.oneCell' = true)
    (h63 : n + m ≤ maxLen) (hbytes : (n + m) * bytes ≤ 140737488355328) (hbase : base ≤ w.heap.size)
    (h : ∀ v' w', w'.ownsRow base e size v' (n + m) (xs ++ news) → w.grownBy w' v.ownBlock → (v' = .slice none 0 0 ↔ v = .slice none 0 0 ∧ m = 0) → K (a.put op.dst v') w') : op.wp P a w K Q := by
  obtain ⟨v', w', hr, h2, h3, h4⟩ := run_append_own (P := P) w base t op.type e i z size bytes ht hi hz hsize hby hzs hsz v n xs hown ad m c news hl hnews h1 h63 hbytes hbase
  unfold Oper.wp
  simp [execOp, ho, resolve, invoke, builtin, hs, hx, hr, Result.andThen]
  exact h v' w' h2 h3 h4

end Go.Proofs.YtebcocejgenadaaGreat
